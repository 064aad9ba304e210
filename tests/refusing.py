"""What the tests of refusals have in common."""

from unittest import TestCase

from bedtwos import errors

KINDS = (errors.BadWishes, errors.BadGuest, errors.BadMates, errors.BadParties, errors.NoNote)


class RefusalTest(TestCase):
    def assert_refused(self, kind, function, *given):
        """The call is refused with this kind, and with no other one below BedError."""
        with self.assertRaises(ValueError) as caught:
            function(*given)
        self.assertIsInstance(caught.exception, errors.BedError)
        self.assertEqual([kind], [one for one in KINDS if isinstance(caught.exception, one)])
