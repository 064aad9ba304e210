"""A plain reckoning of what the document says, apart from the program, to hold its answers against."""

from itertools import combinations, permutations


def suiting(table):
    """All pairs that suit each other, the lesser first."""
    return [
        (one, other)
        for one, other in combinations(range(len(table)), 2)
        if table[one].count(other) == 1 and table[other].count(one) == 1
    ]


def suit(table, one, other):
    return (min(one, other), max(one, other)) in suiting(table)


def liked(table, guest):
    """Whom a guest would have rather than be alone, the best first."""
    return [wish for wish in table[guest] if suit(table, guest, wish)]


def would_rather(table, guest, one, other):
    """Being alone, and whoever the guest would never have, count as worse than anyone whom it would have."""
    order = liked(table, guest)

    def place(choice):
        return order.index(choice) if choice is not None and choice in order else len(order)

    return place(one) < place(other)


def mates_of(many, pairs):
    mates = [None] * many
    for one, other in pairs:
        mates[one], mates[other] = other, one
    return mates


def disjoint(pairs):
    guests = [guest for pair in pairs for guest in pair]
    return len(guests) == len(set(guests))


def every_mates(table):
    """All mates of a table: every choice of pairs that share no guest, sorted."""
    many = len(table)
    found = [
        mates_of(many, pairs)
        for count in range(many // 2 + 1)
        for pairs in combinations(suiting(table), count)
        if disjoint(pairs)
    ]
    return sorted(found, key=lambda mates: [-1 if mate is None else mate for mate in mates])


def restless_of(table, mates):
    return [
        (one, other)
        for one, other in suiting(table)
        if mates[one] != other
        and would_rather(table, one, other, mates[one])
        and would_rather(table, other, one, mates[other])
    ]


def calm_of(table):
    return [mates for mates in every_mates(table) if not restless_of(table, mates)]


def every_after(many):
    """All lists of next ones of so many guests."""
    return [list(after) for after in permutations(range(many))]


def steps_on(after, guest, steps):
    for _ in range(steps):
        guest = after[guest]
    return guest


def party_of(after, guest):
    """All whom going on from a guest comes to, as a set: in six steps each party of up to six is gone round."""
    return {steps_on(after, guest, steps) for steps in range(6)}


def rings_of(after):
    parties = {frozenset(party_of(after, guest)) for guest in range(len(after))}
    leasts = sorted((min(party), len(party)) for party in parties)
    return [[steps_on(after, least, steps) for steps in range(size)] for least, size in leasts]


def one_ahead(after, guest):
    (found,) = [other for other in range(len(after)) if after[other] == guest]
    return found


def hold_by_suiting(table, after):
    """The first of the three conditions by which parties hold."""
    return all(after[guest] == guest or suit(table, guest, after[guest]) for guest in range(len(after)))


def hold_by_direction(table, after):
    """The second one."""
    return all(
        would_rather(table, guest, after[guest], one_ahead(after, guest))
        for guest in range(len(after))
        if len(party_of(after, guest)) >= 3
    )


def hold_by_nobody_breaking_out(table, after):
    """The third one. A guest that is ahead of itself is not in its own list, and so counts as worse than all in it."""
    return not any(
        would_rather(table, one, other, one_ahead(after, one))
        and would_rather(table, other, one, one_ahead(after, other))
        for one, other in suiting(table)
    )


CONDITIONS = (hold_by_suiting, hold_by_direction, hold_by_nobody_breaking_out)


def hold(table, after):
    return all(condition(table, after) for condition in CONDITIONS)


def every_holding(table):
    return [after for after in every_after(len(table)) if hold(table, after)]


def sizes_of(after):
    return [len(ring) for ring in rings_of(after)]


def has_odd_party(after):
    return 3 in sizes_of(after) or 5 in sizes_of(after)


def paired_of(after, ahead):
    """Counted from the least of a party, each at an even place is with its next, or with the one ahead of it."""
    pairs = []
    for ring in rings_of(after):
        if len(ring) > 1:
            pairs += [(guest, one_ahead(after, guest) if ahead else after[guest]) for guest in ring[::2]]
    return mates_of(len(after), pairs)


def stay(table, mates):
    """Whether mates that were there stay at a table."""
    sharing = [(guest, mate) for guest, mate in enumerate(mates) if mate is not None]
    return all(suit(table, guest, mate) for guest, mate in sharing) and restless_of(table, mates) == []


def written(table):
    return "\n".join(" ".join([f"{guest}:", *map(str, row)]) for guest, row in enumerate(table))
