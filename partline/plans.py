"""Plans: how often each sign is awaited, and how that changes as signs come."""

from partline.errors import BadPlan, BadSign
from partline.wholes import are_whole, is_whole, is_whole_list

FEWEST_COUNTS = 2
MOST_COUNTS = 8
GREATEST_COUNT = 1000000
GREATEST_GAIN = 1000000
LONGEST_TEXT = 60


def need_plan(plan):
    """Refuse with BadPlan what is no plan."""
    if type(plan) != tuple or len(plan) != 2:
        raise BadPlan("a plan is a tuple of counts and gain")
    counts, gain = plan
    if type(counts) != tuple:
        raise BadPlan("the counts of a plan are a tuple")
    if not FEWEST_COUNTS <= len(counts) <= MOST_COUNTS:
        raise BadPlan("a plan has from 2 to 8 counts")
    if not are_whole(counts, 1, GREATEST_COUNT):
        raise BadPlan("a count is a whole number from 1 to 1000000")
    if not is_whole(gain, 0, GREATEST_GAIN):
        raise BadPlan("the gain is a whole number from 0 to 1000000")


def need_signs(plan, signs):
    """Refuse with BadPlan what is no plan, with BadSign what is no text of it."""
    need_plan(plan)
    if not is_whole_list(signs, LONGEST_TEXT, 0, _last_sign(plan)):
        raise BadSign("a text is a list of 0 to 60 signs of its plan")


def share(plan, sign):
    """Tell a sign's share: the counts below it, its own, and all of them."""
    _need_sign(plan, sign)
    counts = plan[0]
    return sum(counts[:sign]), counts[sign], sum(counts)


def behind(plan, sign):
    """Tell the plan that stands behind a sign that came."""
    _need_sign(plan, sign)
    counts, gain = plan
    grown = min(counts[sign] + gain, GREATEST_COUNT)
    return counts[:sign] + (grown,) + counts[sign + 1:], gain


def _need_sign(plan, sign):
    need_plan(plan)
    if not is_whole(sign, 0, _last_sign(plan)):
        raise BadSign("a sign is a whole number from 0 to one less than the plan has counts")


def _last_sign(plan):
    return len(plan[0]) - 1
