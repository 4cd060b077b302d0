"""What a run by need shows, part by part."""

from sharefold.answers import Answers
from sharefold.errors import TooMany

MOST_SHOWN = 200


class Showing:
    """The answer of a run as far as it is shown.

    What waits to be shown are pairs of a part's number and of its cell; the number of what is
    worked out to be shown is None where the answer is whole.
    """

    def __init__(self):
        self.answers = Answers()
        self.shown = 0
        self.at = 0
        self.waiting = []

    def is_whole(self):
        return self.at is None

    def show(self, value):
        """Show a value, or what failed; return the cell of what is to be shown next, or None."""
        if self.shown == MOST_SHOWN:
            raise TooMany(MOST_SHOWN)
        self.shown += 1
        numbers = self.answers.tell(self.at, value)
        # Only what is made of a kind has parts, and then it has their cells.
        self.waiting = [(number, value[2][place]) for place, number in enumerate(numbers)] + self.waiting
        if not self.waiting:
            self.at = None
            return None
        self.at, cell = self.waiting.pop(0)
        return cell
