"""Stretches: the parts of the numbers from 0 to 1 that texts and figures have."""

from partline.errors import BadFigures
from partline.plans import behind, need_signs, share
from partline.wholes import is_whole_list

WHOLE = (0, 1, 1)
MOST_FIGURES = 4000


def parted(stretch, one):
    """Tell the part of a stretch that a share has, not made lesser."""
    low, wide, parts = stretch
    below, count, total = one
    return low * total + wide * below, wide * count, parts * total


def within(one, other):
    """Tell whether all numbers of one stretch lie in the other one."""
    low, wide, parts = one
    other_low, other_wide, other_parts = other
    # Multiplied crosswise, so that only whole numbers are compared.
    if low * other_parts < other_low * parts:
        return False
    return (low + wide) * other_parts <= (other_low + other_wide) * parts


def stretch_of(plan, signs):
    """Tell the stretch of a text by a plan."""
    need_signs(plan, signs)
    stretch = WHOLE
    for sign in signs:
        stretch, plan = stepped(stretch, plan, sign)
    return stretch


def stepped(stretch, plan, sign):
    """Tell the stretch of a text with one more sign, and the plan behind that sign."""
    return parted(stretch, share(plan, sign)), behind(plan, sign)


def need_figures(figures):
    """Refuse with BadFigures what is no list of 0 to 4000 figures."""
    if not is_whole_list(figures, MOST_FIGURES, 0, 1):
        raise BadFigures("figures are a list of 0 to 4000 numbers, each 0 or 1")


def figured(figures):
    """Tell the stretch of figures, which write a number by twos."""
    need_figures(figures)
    return lengthened(WHOLE, figures)


def lengthened(stretch, figures):
    """Tell the stretch of figures to which further ones came, from what it was before."""
    number, wide, parts = stretch
    for figure in figures:
        number = 2 * number + figure
        parts = 2 * parts
    return number, wide, parts
