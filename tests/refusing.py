"""What all tests of refusals share."""

import unittest

from whichbroke.errors import WorkError


class RefusingTest(unittest.TestCase):
    """A test that asks which error a call raises."""

    def refused(self, error, call, *handed):
        """The call raises just this error, not one of another class."""
        # What is handed in is shown by its kind alone, for some of it cannot be shown.
        shown_as = [type(thing).__name__ for thing in handed]
        try:
            call(*handed)
        except WorkError as caught:
            self.assertEqual(caught.__class__.__name__, error.__name__, shown_as)
            self.assertIs(caught.__class__, error)
        else:
            self.fail(f"nothing was refused: {shown_as}")

    def all_refused(self, error, call, things):
        """The call raises just this error for each of the things."""
        for at, thing in enumerate(things):
            with self.subTest(at=at):
                self.refused(error, call, thing)
