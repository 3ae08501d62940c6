"""Figures: the few that tell a text, and those that its first signs make certain."""

from partline.stretches import stretch_of, within


def figures_in(stretch):
    """Tell the shortest figures whose stretch lies within one, of several the first."""
    many = _fewest(stretch)
    number = _first_number(stretch, many)
    # Pieces of the numbers from 0 to 1 that are just no wider than the stretch
    # may all overlap its ends. Of pieces half as wide, one fits in any case.
    if not within((number, 1, 1 << many), stretch):
        many += 1
        number = _first_number(stretch, many)
    return _by_twos(number, many)


def figures_around(stretch):
    """Tell the longest figures whose stretch one lies within."""
    low, wide, parts = stretch
    # The stretch of more figures would be narrower than this one, so the longest
    # are those with which both its ends begin, of so many.
    many = _fewest(stretch)
    first = (low << many) // parts
    last = (((low + wide) << many) - 1) // parts
    differing = (first ^ last).bit_length()
    return _by_twos(first >> differing, many - differing)


def pressed(plan, signs):
    """Tell the figures to which a text of a plan is pressed."""
    return figures_in(stretch_of(plan, signs))


def _fewest(stretch):
    """Tell how many figures it takes for a stretch no wider than this one."""
    _, wide, parts = stretch
    many = 0
    while wide < parts:
        wide = 2 * wide
        many += 1
    return many


def _first_number(stretch, many):
    """Tell the least number by so many figures that is not below a stretch."""
    low, _, parts = stretch
    return ((low << many) + parts - 1) // parts


def _by_twos(number, many):
    """Write a number by twos, with so many figures."""
    return [(number >> place) & 1 for place in reversed(range(many))]
