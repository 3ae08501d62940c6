import unittest

from partline.errors import BadPlan, BadSign
from partline.figures import figures_in, pressed
from partline.stretches import WHOLE, figured, parted, stretch_of
from tests.samples import (
    BAD_PLANS, LIMIT_PLANS, PLANS, SLY, Unchanged, bad_signs, ends, exact, figure_ends, figure_lists,
    lies, long_texts, refused, texts,
)

GREAT_WHOLES = [10 ** 20, 10 ** 20 + 39, 10 ** 31, 2 ** 64, 2 ** 67 - 1, 2 ** 67 + 1, 3 ** 70, 7 ** 100]


def searched(stretch):
    """The figures in a stretch, by trying all lists of figures in their order."""
    many = 0
    while True:
        for figures in figure_lists(many):
            if lies(figure_ends(figures), ends(stretch)):
                return figures
        many += 1


def great_stretches(parts):
    """Stretches of a great whole: wide and least ones, at its ends and within it."""
    widths = [1, 2, 3, 1000, parts // 7, parts // 2, parts // 2 + 1, parts - 1, parts]
    return [
        (low, wide, parts)
        for wide in widths
        for low in (0, 1, 2, parts // 3, parts // 2 - 1, parts // 2, parts - wide - 1, parts - wide)
        if 0 <= low <= parts - wide
    ]


class FiguresCase(unittest.TestCase):
    def check_figures_in(self, figures, stretch):
        """Check the figures in a stretch by the words of the document."""
        low, high = ends(stretch)
        many = len(figures)
        self.assertTrue(lies(figure_ends(figures), (low, high)))
        # Of all lists with as many figures it is the first one whose stretch
        # does not begin below the other one.
        self.assertLess(figure_ends(figures)[0] - low, figure_ends(figures)[1] - figure_ends(figures)[0])
        # Of the lists with one figure less, the first such one ends too late.
        # If there were a shorter one, there would be one that goes on from it.
        if many > 0:
            parts = 2 ** (many - 1)
            first = -(-low * parts // 1)
            self.assertGreater(first + 1, high * parts)

    def check_bounds(self, figures, stretch):
        _, wide, parts = stretch
        self.assertLessEqual(parts, 2 ** len(figures) * wide)
        self.assertLess(2 ** len(figures) * wide, 4 * parts)


class FiguresInTest(FiguresCase):
    def test_the_whole_has_no_figures(self):
        for parts in (1, 2, 3, 8, 1000, 10 ** 20, 10 ** 40):
            exact(self, figures_in((0, parts, parts)), [])

    def test_worked_out_by_hand(self):
        exact(self, figures_in((0, 1, 2)), [0])
        exact(self, figures_in((1, 1, 2)), [1])
        exact(self, figures_in((0, 1, 3)), [0, 0])
        exact(self, figures_in((1, 1, 3)), [0, 1, 1])
        exact(self, figures_in((2, 1, 3)), [1, 1])
        exact(self, figures_in((10, 2, 20)), [1, 0, 0, 0])

    def test_of_several_the_first(self):
        exact(self, figures_in((1, 2, 4)), [0, 1])
        exact(self, figures_in((1, 6, 8)), [0, 1])
        exact(self, figures_in((0, 3, 4)), [0])
        exact(self, figures_in((1, 5, 16)), [0, 0, 1])
        exact(self, figures_in((0, 99, 100)), [0])

    def test_all_small_stretches_by_trying_all_figures(self):
        for parts in range(1, 20):
            for low in range(parts):
                for wide in range(1, parts - low + 1):
                    stretch = (low, wide, parts)
                    with self.subTest(stretch=stretch):
                        with Unchanged(self, stretch):
                            told = figures_in(stretch)
                        exact(self, told, searched(stretch))
                        self.check_figures_in(told, stretch)
                        self.check_bounds(told, stretch)

    def test_small_stretches_not_made_lesser(self):
        for times in (2, 3, 1024, 10 ** 20):
            for low, wide, parts in ((0, 1, 1), (1, 1, 3), (1, 2, 4), (3, 4, 7), (4, 1, 5)):
                told = figures_in((low * times, wide * times, parts * times))
                exact(self, told, figures_in((low, wide, parts)))

    def test_stretches_of_great_wholes(self):
        for parts in GREAT_WHOLES:
            for stretch in great_stretches(parts):
                with self.subTest(stretch=stretch):
                    told = figures_in(stretch)
                    self.check_figures_in(told, stretch)
                    self.check_bounds(told, stretch)

    def test_the_least_width(self):
        exact(self, figures_in((0, 1, 2 ** 70)), [0] * 70)
        exact(self, figures_in((2 ** 70 - 1, 1, 2 ** 70)), [1] * 70)
        exact(self, figures_in((0, 1, 2 ** 70 + 1)), [0] * 71)
        exact(self, figures_in((2 ** 70, 1, 2 ** 70 + 1)), [1] * 71)
        exact(self, figures_in((0, 1, 2 ** 70 - 1)), [0] * 70)

    def test_stretches_of_texts(self):
        for plan in PLANS + LIMIT_PLANS:
            for many in range(4 if len(plan[0]) < 5 else 3):
                for signs in texts(plan, many):
                    stretch = stretch_of(plan, signs)
                    told = figures_in(stretch)
                    self.check_figures_in(told, stretch)
                    self.check_bounds(told, stretch)
                    if len(told) < 9:
                        exact(self, told, searched(stretch))

    def test_figures_are_in_their_own_stretch(self):
        for many in range(9):
            for figures in figure_lists(many):
                exact(self, figures_in(figured(figures)), figures)
        for figures in ([0] * 4000, [1] * 4000, [0, 1, 1] * 1333 + [1], [1] + [0] * 3999):
            exact(self, figures_in(figured(figures)), figures)

    def test_within_a_stretch_of_many_figures(self):
        stretch = parted(figured([1, 0] * 2000), (1, 2, 4))
        exact(self, figures_in(stretch), [1, 0] * 2000 + [0, 1])

    def test_asked_again_behind_a_change_of_what_was_told(self):
        for stretch in (WHOLE, (10, 2, 20), (1, 1, 10 ** 20)):
            before = figures_in(stretch)
            kept = list(before)
            before.append(1)
            before[0] = 7
            after = figures_in(stretch)
            exact(self, after, kept)
            self.assertIsNot(after, figures_in(stretch))
        exact(self, WHOLE, (0, 1, 1))


class PressedTest(FiguresCase):
    def test_worked_out_by_hand(self):
        exact(self, pressed(((1, 1), 0), [0, 1, 1, 0]), [0, 1, 1, 0])
        exact(self, pressed(((2, 1, 1), 1), [1, 0]), [1, 0, 0, 0])
        exact(self, pressed(((1, 1), 1), [0, 0]), [0, 0])
        exact(self, pressed(((1, 1), 1), [0, 1]), [0, 1, 1])

    def test_no_signs(self):
        for plan in PLANS + LIMIT_PLANS:
            exact(self, pressed(plan, []), [])

    def test_one_sign(self):
        for plan in PLANS + LIMIT_PLANS:
            for sign in range(len(plan[0])):
                counts = plan[0]
                stretch = (sum(counts[:sign]), counts[sign], sum(counts))
                self.check_figures_in(pressed(plan, [sign]), stretch)
                self.check_bounds(pressed(plan, [sign]), stretch)

    def test_60_signs(self):
        for plan in PLANS + LIMIT_PLANS:
            for signs in long_texts(plan):
                with self.subTest(plan=plan, signs=signs):
                    stretch = stretch_of(plan, signs)
                    with Unchanged(self, plan, signs):
                        told = pressed(plan, signs)
                    self.check_figures_in(told, stretch)
                    self.check_bounds(told, stretch)
                    exact(self, told, figures_in(stretch))

    def test_how_many_figures_60_signs_have(self):
        exact(self, pressed(((1, 1), 0), [0, 1] * 30), [0, 1] * 30)
        exact(self, pressed(((1,) * 8, 0), [0, 7] * 30), [0, 0, 0, 1, 1, 1] * 30)
        # The share of each sign is 1 of 7000001, which is less than 2 ** 23.
        exact(self, pressed(((1,) + (1000000,) * 7, 0), [0] * 60), [0] * 1365)

    def test_texts_with_as_many_signs_stand_in_the_order_of_their_figures(self):
        for plan in PLANS + LIMIT_PLANS:
            for many in range(5 if len(plan[0]) < 5 else 4):
                told = [pressed(plan, signs) for signs in texts(plan, many)]
                for one, other in zip(told, told[1:]):
                    self.assertLess(one, other)
            told = [pressed(plan, signs) for signs in sorted(long_texts(plan))]
            self.assertEqual(told, sorted(told))

    def test_a_list_that_is_changed_behind_the_call_changes_nothing(self):
        plan = ((2, 1, 1), 1)
        signs = [1, 0]
        told = pressed(plan, signs)
        signs[0] = 2
        signs.append(2)
        exact(self, told, [1, 0, 0, 0])
        exact(self, pressed(plan, [1, 0]), [1, 0, 0, 0])

    def test_asked_again_behind_a_change_of_what_was_told(self):
        plan = ((2, 1, 1), 1)
        for signs, awaited in (([], []), ([1, 0], [1, 0, 0, 0])):
            told = pressed(plan, signs)
            told.append(1)
            told[0] = None
            exact(self, pressed(plan, signs), awaited)

    def test_what_is_no_text_is_refused(self):
        for plan in PLANS:
            for at, bad in enumerate(bad_signs(plan)):
                with self.subTest(plan=plan, at=at):
                    refused(self, BadSign, pressed, plan, bad)

    def test_a_bad_plan_comes_before_bad_signs(self):
        for at, bad in enumerate(BAD_PLANS):
            for signs in ([], [0], [9], [0] * 61, None, SLY):
                with self.subTest(at=at):
                    refused(self, BadPlan, pressed, bad, signs)
