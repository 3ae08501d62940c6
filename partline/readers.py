"""Readers: they take figures, as they come, and tell the signs that are certain."""

from partline.errors import BadCount, BadFigures
from partline.plans import LONGEST_TEXT, need_plan, share
from partline.stretches import MOST_FIGURES, WHOLE, lengthened, need_figures, parted, stepped, within
from partline.wholes import is_whole


class Reader:
    """Reads a text of a plan, with so many signs, by and by."""

    def __init__(self, plan, many):
        need_plan(plan)
        _need_many(many)
        self._many = many
        self._signs = []
        # The stretch of the signs that were told, and the plan behind them.
        self._stretch = WHOLE
        self._plan = plan
        # How many figures were taken, and their stretch.
        self._taken = 0
        self._inner = WHOLE

    def take(self, figures):
        """Take further figures, and tell the signs that became certain by them."""
        need_figures(figures)
        if self._taken + len(figures) > MOST_FIGURES:
            raise BadFigures("a reader takes no more than 4000 figures together")
        self._taken += len(figures)
        self._inner = lengthened(self._inner, figures)
        return self._further()

    def told(self):
        """Tell all signs that were told."""
        return list(self._signs)

    def lacking(self):
        """Tell how many signs were not told yet."""
        return self._many - len(self._signs)

    def _further(self):
        fresh = []
        while self.lacking() > 0:
            sign = _sign_around(self._inner, self._stretch, self._plan)
            if sign is None:
                break
            self._stretch, self._plan = stepped(self._stretch, self._plan, sign)
            self._signs.append(sign)
            fresh.append(sign)
        return fresh


def _sign_around(inner, stretch, plan):
    """Tell the sign whose part of a stretch an inner stretch lies within, or None."""
    for sign in range(len(plan[0])):
        if within(inner, parted(stretch, share(plan, sign))):
            return sign
    return None


def _need_many(many):
    if not is_whole(many, 0, LONGEST_TEXT):
        raise BadCount("a number of signs is a whole number from 0 to 60")
