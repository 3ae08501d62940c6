import unittest
from fractions import Fraction

from partline.errors import BadFigures, BadPlan, BadSign
from partline.plans import behind, share
from partline.stretches import WHOLE, figured, parted, stretch_of, within
from tests.samples import (
    BAD_PLANS, HUGE, NO_LISTS, NO_WHOLES, PLANS, SLY, Unchanged, ends, exact, refused, texts,
)


class WholeTest(unittest.TestCase):
    def test_the_whole(self):
        exact(self, WHOLE, (0, 1, 1))


class PartedTest(unittest.TestCase):
    def test_step_by_step(self):
        stretch = parted(WHOLE, (2, 3, 7))
        exact(self, stretch, (2, 3, 7))
        stretch = parted(stretch, (1, 4, 10))
        exact(self, stretch, (23, 12, 70))
        stretch = parted(stretch, (0, 5, 11))
        exact(self, stretch, (253, 60, 770))

    def test_not_made_lesser(self):
        exact(self, parted(WHOLE, (2, 2, 4)), (2, 2, 4))
        exact(self, parted((2, 2, 4), (2, 2, 4)), (12, 4, 16))
        exact(self, parted((0, 4, 4), (0, 2, 2)), (0, 8, 8))

    def test_what_is_handed_in_is_unchanged(self):
        stretch = (23, 12, 70)
        one = (1, 4, 10)
        with Unchanged(self, stretch, one):
            parted(stretch, one)

    def test_the_parts_of_a_stretch_lie_side_by_side_in_it(self):
        stretch = (23, 12, 70)
        plan = ((3, 1, 4), 1)
        parts = [ends(parted(stretch, share(plan, sign))) for sign in range(3)]
        self.assertEqual(parts[0][0], ends(stretch)[0])
        self.assertEqual(parts[0][1], parts[1][0])
        self.assertEqual(parts[1][1], parts[2][0])
        self.assertEqual(parts[2][1], ends(stretch)[1])


class StretchOfTest(unittest.TestCase):
    def test_no_sign_has_the_whole(self):
        for plan in PLANS:
            exact(self, stretch_of(plan, []), (0, 1, 1))

    def test_the_plan_changes_behind_each_sign(self):
        exact(self, stretch_of(((1, 1), 1), [0]), (0, 1, 2))
        exact(self, stretch_of(((1, 1), 1), [0, 0]), (0, 2, 6))
        exact(self, stretch_of(((1, 1), 1), [0, 1]), (2, 1, 6))
        exact(self, stretch_of(((2, 1, 1), 1), [1, 0]), (10, 2, 20))
        exact(self, stretch_of(((2, 1, 1), 1), [1, 0, 2]), (70, 2, 120))

    def test_a_count_ends_at_1000000(self):
        exact(self, stretch_of(((1, 1), 1000000), [0, 0]), (0, 1000000, 2000002))
        exact(self, stretch_of(((1, 1), 1000000), [0, 0, 1]), (1000000000000, 1000000, 2000004000002))

    def test_it_is_the_whole_parted_by_the_shares(self):
        for plan in PLANS:
            for signs in texts(plan, 3) + [[0] * 60, [1, 0] * 30, [len(plan[0]) - 1] * 60]:
                stretch = (0, 1, 1)
                now = plan
                for sign in signs:
                    stretch = parted(stretch, share(now, sign))
                    now = behind(now, sign)
                with Unchanged(self, plan, signs):
                    exact(self, stretch_of(plan, signs), stretch)

    def test_its_width_by_another_way(self):
        # Of 60 equal signs by counts 1 and 1 with gain 1: 1/2 times 2/3 and so on.
        low, wide, parts = stretch_of(((1, 1), 1), [1] * 60)
        self.assertEqual(Fraction(wide, parts), Fraction(1, 61))
        self.assertEqual(low + wide, parts)

    def test_stretches_of_as_many_signs_lie_side_by_side_and_fill_the_whole(self):
        for plan in PLANS:
            for many in range(5 if len(plan[0]) < 5 else 4):
                with self.subTest(plan=plan, many=many):
                    end = 0
                    for signs in texts(plan, many):
                        low, high = ends(stretch_of(plan, signs))
                        self.assertEqual(low, end)
                        self.assertLess(low, high)
                        end = high
                    self.assertEqual(end, 1)

    def test_a_list_that_is_changed_behind_the_call_changes_nothing(self):
        plan = ((2, 1, 1), 1)
        signs = [1, 0]
        told = stretch_of(plan, signs)
        signs.append(2)
        exact(self, told, (10, 2, 20))
        exact(self, stretch_of(plan, [1, 0]), (10, 2, 20))

    def test_bad_signs_are_refused(self):
        plan = ((1, 1), 1)
        for bad in ([2], [0, -1], [0] * 61, [True], [0, False], [0, None], [1.0]):
            refused(self, BadSign, stretch_of, plan, bad)
        for at, bad in enumerate(NO_LISTS):
            with self.subTest(at=at):
                refused(self, BadSign, stretch_of, plan, bad)

    def test_a_bad_plan_comes_before_bad_signs(self):
        for at, bad in enumerate(BAD_PLANS):
            for signs in ([], [0], [9], None, SLY):
                with self.subTest(at=at):
                    refused(self, BadPlan, stretch_of, bad, signs)


class FiguredTest(unittest.TestCase):
    def test_no_figures(self):
        exact(self, figured([]), (0, 1, 1))

    def test_few_figures(self):
        exact(self, figured([0]), (0, 1, 2))
        exact(self, figured([1]), (1, 1, 2))
        exact(self, figured([0, 1]), (1, 1, 4))
        exact(self, figured([1, 0]), (2, 1, 4))
        exact(self, figured([1, 1, 0, 1]), (13, 1, 16))
        exact(self, figured([0, 0, 0, 0, 0]), (0, 1, 32))

    def test_4000_figures(self):
        exact(self, figured([0] * 4000), (0, 1, 1 << 4000))
        exact(self, figured([1] * 4000), ((1 << 4000) - 1, 1, 1 << 4000))
        exact(self, figured([1] + [0] * 3999), (1 << 3999, 1, 1 << 4000))
        exact(self, figured([0] * 3999 + [1]), (1, 1, 1 << 4000))

    def test_figures_stay_unchanged(self):
        figures = [1, 0, 1]
        with Unchanged(self, figures):
            told = figured(figures)
        figures.append(1)
        exact(self, told, (5, 1, 8))
        exact(self, figured([1, 0, 1]), (5, 1, 8))

    def test_too_many_figures(self):
        refused(self, BadFigures, figured, [0] * 4001)
        refused(self, BadFigures, figured, [1] * 9000)

    def test_what_is_no_figure(self):
        for at, bad in enumerate(NO_WHOLES + [-1, 2, -HUGE, HUGE]):
            with self.subTest(at=at):
                refused(self, BadFigures, figured, [bad])
                refused(self, BadFigures, figured, [bad, 0, 1])
                refused(self, BadFigures, figured, [0, bad, 1])
                refused(self, BadFigures, figured, [0] * 3999 + [bad])

    def test_what_is_no_list(self):
        for at, bad in enumerate(NO_LISTS):
            with self.subTest(at=at):
                refused(self, BadFigures, figured, bad)


class WithinTest(unittest.TestCase):
    def test_within_one_another(self):
        self.assertIs(within((1, 1, 4), WHOLE), True)
        self.assertIs(within(WHOLE, (1, 1, 4)), False)
        self.assertIs(within((4, 2, 12), (1, 2, 4)), True)
        self.assertIs(within((1, 2, 4), (4, 2, 12)), False)

    def test_touching_an_end(self):
        self.assertIs(within((0, 1, 3), (0, 1, 2)), True)
        self.assertIs(within((0, 1, 2), (0, 1, 3)), False)
        self.assertIs(within((2, 1, 3), (1, 1, 2)), True)
        self.assertIs(within((1, 1, 2), (2, 1, 3)), False)

    def test_equal(self):
        self.assertIs(within(WHOLE, WHOLE), True)
        self.assertIs(within((1, 1, 2), (3, 3, 6)), True)
        self.assertIs(within((3, 3, 6), (1, 1, 2)), True)

    def test_beside_one_another(self):
        self.assertIs(within((0, 1, 2), (1, 1, 2)), False)
        self.assertIs(within((1, 1, 2), (0, 1, 2)), False)
        self.assertIs(within((0, 1, 4), (3, 1, 4)), False)
        self.assertIs(within((3, 1, 4), (0, 1, 4)), False)

    def test_over_one_end_only(self):
        self.assertIs(within((0, 2, 4), (1, 2, 4)), False)
        self.assertIs(within((1, 2, 4), (0, 2, 4)), False)
        self.assertIs(within((999, 2, 4000), (1, 1, 4)), False)
        self.assertIs(within((1999, 2, 4000), (1, 1, 4)), False)

    def test_all_small_stretches(self):
        small = [
            (low, wide, parts)
            for parts in range(1, 7) for low in range(parts) for wide in range(1, parts - low + 1)
        ]
        for one in small:
            for other in small:
                with Unchanged(self, one, other):
                    told = within(one, other)
                low, high = ends(one)
                other_low, other_high = ends(other)
                self.assertIs(told, other_low <= low and high <= other_high)

    def test_a_text_lies_within_its_beginnings(self):
        for plan in PLANS:
            for signs in texts(plan, 3):
                for cut in range(4):
                    self.assertIs(within(stretch_of(plan, signs), stretch_of(plan, signs[:cut])), True)
                    self.assertIs(within(stretch_of(plan, signs[:cut]), stretch_of(plan, signs)), cut == 3)

    def test_4000_figures(self):
        self.assertIs(within(figured([1] * 4000), figured([1] * 3999)), True)
        self.assertIs(within(figured([1] * 3999), figured([1] * 4000)), False)
        self.assertIs(within(figured([1] * 4000), figured([1] * 3999 + [0])), False)
