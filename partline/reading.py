"""Reading: the signs of a text that are certain by figures."""

from partline.errors import BadFigures
from partline.readers import Reader


def certain(plan, many, figures):
    """Tell the signs that figures make certain, of a text with so many signs."""
    return Reader(plan, many).take(figures)


def read(plan, many, figures):
    """Tell a text with so many signs, all of which figures make certain."""
    signs = certain(plan, many, figures)
    if len(signs) < many:
        raise BadFigures("the figures leave some of the signs uncertain")
    return signs
