"""A plain reckoning of what the document says, apart from the program, to hold its answers against."""

from itertools import combinations


def suiting(table):
    """All pairs that suit each other, the lesser first."""
    return [
        (one, other)
        for one, other in combinations(range(len(table)), 2)
        if table[one].count(other) == 1 and table[other].count(one) == 1
    ]


def suit(table, one, other):
    return (min(one, other), max(one, other)) in suiting(table)


def liked(table, guest):
    """Whom a guest would have rather than be alone, the best first."""
    return [wish for wish in table[guest] if suit(table, guest, wish)]


def would_rather(table, guest, one, other):
    """Being alone, and whoever the guest would never have, count as worse than anyone whom it would have."""
    order = liked(table, guest)

    def place(choice):
        return order.index(choice) if choice is not None and choice in order else len(order)

    return place(one) < place(other)


def mates_of(many, pairs):
    mates = [None] * many
    for one, other in pairs:
        mates[one], mates[other] = other, one
    return mates


def disjoint(pairs):
    guests = [guest for pair in pairs for guest in pair]
    return len(guests) == len(set(guests))


def every_mates(table):
    """All mates of a table: every choice of pairs that share no guest, sorted."""
    many = len(table)
    found = [
        mates_of(many, pairs)
        for count in range(many // 2 + 1)
        for pairs in combinations(suiting(table), count)
        if disjoint(pairs)
    ]
    return sorted(found, key=lambda mates: [-1 if mate is None else mate for mate in mates])


def restless_of(table, mates):
    return [
        (one, other)
        for one, other in suiting(table)
        if mates[one] != other
        and would_rather(table, one, other, mates[one])
        and would_rather(table, other, one, mates[other])
    ]


def calm_of(table):
    return [mates for mates in every_mates(table) if not restless_of(table, mates)]
