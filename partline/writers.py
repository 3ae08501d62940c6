"""Writers: they take signs, as they come, and tell the figures that are certain."""

from partline.errors import BadSign, Ended
from partline.figures import figures_around, figures_in
from partline.plans import LONGEST_TEXT, need_plan, need_signs
from partline.stretches import WHOLE, stepped


class Writer:
    """Writes the figures of a text of a plan by and by."""

    def __init__(self, plan):
        need_plan(plan)
        # How many signs were taken, their stretch, and the plan behind them.
        self._taken = 0
        self._stretch = WHOLE
        self._plan = plan
        self._figures = []
        self._ended = False

    def take(self, signs):
        """Take further signs, and tell the figures that became certain by them."""
        self._refuse_ended()
        # The plan behind the signs that were taken has the same signs as the first one.
        need_signs(self._plan, signs)
        if self._taken + len(signs) > LONGEST_TEXT:
            raise BadSign("a writer takes no more than 60 signs together")
        self._taken += len(signs)
        for sign in signs:
            self._stretch, self._plan = stepped(self._stretch, self._plan, sign)
        return self._tell(figures_around(self._stretch))

    def end(self):
        """End the text, and tell those of its figures that were not told yet."""
        self._refuse_ended()
        self._ended = True
        return self._tell(figures_in(self._stretch))

    def told(self):
        """Tell all figures that were told."""
        return list(self._figures)

    def _refuse_ended(self):
        if self._ended:
            raise Ended("the writer has ended")

    def _tell(self, figures):
        # They begin with all figures that were told before.
        fresh = figures[len(self._figures):]
        self._figures = figures
        return fresh
