"""Values that several tests hand in, and how they look at what became of them."""

from fractions import Fraction
from itertools import product


class Sly:
    """Fails whatever it is asked, but for its class."""

    def _fail(self, *rest):
        raise RuntimeError("a value that was handed in was asked something")

    __eq__ = __ne__ = __lt__ = __le__ = __gt__ = __ge__ = _fail
    __len__ = __iter__ = __getitem__ = __contains__ = __bool__ = _fail
    __index__ = __int__ = __add__ = __radd__ = __str__ = __repr__ = __hash__ = _fail


SLY = Sly()
NO_WHOLES = [True, False, None, 1.0, 1j, "1", b"1", [], [1], (), (1,), {}, {1: 1}, {1}, range(1), int, SLY]
NO_LISTS = [True, False, None, 0, 1, 1.0, "", "01", b"", b"01", (), (0, 1), {}, {0: 1}, set(), range(2), list, iter([0]), SLY]
NO_TUPLES = [True, False, None, 0, 1, 1.0, "", "11", b"11", [], [1, 1], {}, {1: 1, 2: 1}, {1, 2}, range(1, 3), tuple, SLY]
HUGE = 10 ** 5000

PLANS = [
    ((1, 1), 0),
    ((1, 1), 1),
    ((3, 1), 2),
    ((1, 5, 2), 0),
    ((2, 1, 1), 1),
    ((1, 999999, 1000000), 3),
    ((1000000, 1, 7, 2), 1000000),
    ((1, 2, 3, 4, 5, 6, 7, 8), 5),
]

LEAST = 1
GREATEST = 1000000

# Of the least and the greatest counts and gains.
LIMIT_PLANS = [
    ((LEAST, LEAST), 0),
    ((LEAST,) * 8, 0),
    ((LEAST, LEAST), GREATEST),
    ((LEAST,) * 8, GREATEST),
    ((GREATEST, GREATEST), 0),
    ((GREATEST,) * 8, GREATEST),
    ((LEAST,) + (GREATEST,) * 7, 0),
    ((GREATEST,) * 7 + (LEAST,), 0),
    ((LEAST, GREATEST), GREATEST),
]

BAD_PLANS = (
    NO_TUPLES
    + [(), (1,), ((1, 1),), ((1, 1), 0, 0), ((1, 1), 0, None), (0, (1, 1)), (1, 1)]
    + [[(1, 1), 0], ([1, 1], 0), [[1, 1], 0]]
    + [(counts, 0) for counts in NO_TUPLES]
    + [((), 0), ((1,), 0), ((1,) * 9, 0), ((1,) * 100, 0)]
    + [((1, 1), gain) for gain in NO_WHOLES + [-1, 1000001, -HUGE, HUGE]]
    + [((count, 1), 0) for count in NO_WHOLES + [0, -1, 1000001, -HUGE, HUGE]]
    + [((1, 1, count), 0) for count in NO_WHOLES + [0, -1, 1000001, -HUGE, HUGE]]
    + [((1, 1, 1, count, 1, 1, 1, 1), 0) for count in NO_WHOLES + [0, -1, 1000001]]
)

BAD_COUNTS = NO_WHOLES + [-1, 61, 62, -HUGE, HUGE]

BAD_FIGURES = (
    NO_LISTS
    + [[bad] for bad in NO_WHOLES + [-1, 2, -HUGE, HUGE]]
    + [[0, 1, bad, 1, 0] for bad in NO_WHOLES + [-1, 2]]
    + [[0] * 4001, [1] * 5000, [0] * 4000 + [None]]
)


def bad_signs(plan):
    """What is no list of signs of a plan, or no text of it."""
    bad_ones = NO_WHOLES + [-1, len(plan[0]), -HUGE, HUGE]
    return NO_LISTS + [[bad] for bad in bad_ones] + [[0, bad, 1] for bad in bad_ones] + [[0] * 61, [1] * 1000]


def long_texts(plan):
    """Some texts of a plan with 60 signs."""
    many = len(plan[0])
    last = many - 1
    return [
        [0] * 60,
        [last] * 60,
        [0, last] * 30,
        [at % many for at in range(60)],
        [(at * at + at // 7) % many for at in range(60)],
        [last] + [0] * 59,
        [0] * 59 + [last],
    ]


def figure_lists(many):
    """All lists of so many figures, in the order of lists."""
    return [list(figures) for figures in product((0, 1), repeat=many)]


def ends(stretch):
    """The numbers between which a stretch lies."""
    low, wide, parts = stretch
    return Fraction(low, parts), Fraction(low + wide, parts)


def figure_ends(figures):
    """The numbers between which the stretch of figures lies, halving by halving."""
    low, wide = Fraction(0), Fraction(1)
    for figure in figures:
        wide = wide / 2
        low = low + wide * figure
    return low, low + wide


def lies(inner, outer):
    """Tell whether the numbers between some ends lie between other ones."""
    return outer[0] <= inner[0] and inner[1] <= outer[1]


def cuts(values, sizes):
    """Cut a list into pieces, of these sizes over and over again."""
    pieces = []
    at = 0
    while at < len(values):
        size = sizes[len(pieces) % len(sizes)]
        pieces.append(values[at:at + size])
        at += size
    return pieces


def texts(plan, many):
    """All texts of a plan with so many signs, in the order of lists."""
    return [list(text) for text in product(range(len(plan[0])), repeat=many)]


def look(value):
    """Tell all of a value, so that True and 1, and [] and (), look different."""
    if isinstance(value, (list, tuple)):
        return type(value).__name__, [look(item) for item in value]
    if type(value) is int:
        return "int", value
    return type(value).__name__, id(value)


class Unchanged:
    """Within it, none of the values that are handed in may change."""

    def __init__(self, case, *values):
        self.case = case
        self.values = values

    def __enter__(self):
        self.before = [look(value) for value in self.values]

    def __exit__(self, kind, value, trace):
        if kind is None:
            self.case.assertEqual(self.before, [look(value) for value in self.values])
        return False


def refused(case, error, function, *values):
    """Check that a call is refused with just this error, and changes nothing."""
    with Unchanged(case, *values):
        try:
            told = function(*values)
        except error as why:
            case.assertIs(type(why), error)
            return
    case.fail(f"not refused, but told {told!r}")


def exact(case, told, awaited):
    """Check that what is told is awaited, and of the very same kinds."""
    case.assertEqual(look(told), look(awaited))
