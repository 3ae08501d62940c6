import unittest

from partline.errors import BadPlan, BadSign
from partline.plans import behind, need_plan, need_signs, share
from tests.samples import (
    BAD_PLANS, GREATEST, HUGE, LEAST, NO_LISTS, NO_WHOLES, PLANS, SLY, Unchanged, exact, refused,
)


class NeedPlanTest(unittest.TestCase):
    def test_plans_are_let_by(self):
        for plan in PLANS:
            with Unchanged(self, plan):
                self.assertIsNone(need_plan(plan))

    def test_each_number_of_counts_from_2_to_8_at_the_limits(self):
        for many in range(2, 9):
            for count in (LEAST, GREATEST):
                for gain in (0, GREATEST):
                    with self.subTest(many=many, count=count, gain=gain):
                        self.assertIsNone(need_plan(((count,) * many, gain)))

    def test_what_is_no_plan_is_refused(self):
        for at, bad in enumerate(BAD_PLANS):
            with self.subTest(at=at):
                refused(self, BadPlan, need_plan, bad)

    def test_a_bad_count_is_refused_at_each_place(self):
        for many in (2, 5, 8):
            for at in range(many):
                for bad in (0, GREATEST + 1, True, 1.0, None):
                    counts = (1,) * at + (bad,) + (1,) * (many - at - 1)
                    with self.subTest(counts=counts):
                        refused(self, BadPlan, need_plan, (counts, 0))


class ShareTest(unittest.TestCase):
    def test_first_middle_and_last_sign(self):
        plan = ((3, 1, 4, 1, 5, 9, 2, 6), 7)
        with Unchanged(self, plan):
            exact(self, share(plan, 0), (0, 3, 31))
            exact(self, share(plan, 3), (8, 1, 31))
            exact(self, share(plan, 4), (9, 5, 31))
            exact(self, share(plan, 7), (25, 6, 31))

    def test_two_signs(self):
        exact(self, share(((1, GREATEST), 0), 0), (0, 1, GREATEST + 1))
        exact(self, share(((1, GREATEST), 0), 1), (1, GREATEST, GREATEST + 1))

    def test_greatest_counts(self):
        plan = ((GREATEST,) * 8, GREATEST)
        exact(self, share(plan, 7), (7 * GREATEST, GREATEST, 8 * GREATEST))

    def test_shares_of_all_signs_lie_side_by_side(self):
        for plan in PLANS:
            end = 0
            for sign in range(len(plan[0])):
                below, count, total = share(plan, sign)
                self.assertEqual(below, end)
                self.assertEqual(count, plan[0][sign])
                end = below + count
            self.assertEqual(end, total)


class BehindTest(unittest.TestCase):
    def test_only_the_count_of_the_sign_is_greater_by_the_gain(self):
        plan = ((3, 1, 4, 1), 7)
        with Unchanged(self, plan):
            exact(self, behind(plan, 0), ((10, 1, 4, 1), 7))
            exact(self, behind(plan, 1), ((3, 8, 4, 1), 7))
            exact(self, behind(plan, 2), ((3, 1, 11, 1), 7))
            exact(self, behind(plan, 3), ((3, 1, 4, 8), 7))

    def test_no_gain(self):
        plan = ((3, 1), 0)
        exact(self, behind(plan, 0), plan)
        exact(self, behind(plan, 1), plan)

    def test_a_count_ends_at_1000000(self):
        exact(self, behind(((999998, 1), 1), 0), ((999999, 1), 1))
        exact(self, behind(((999999, 1), 1), 0), ((1000000, 1), 1))
        exact(self, behind(((1000000, 1), 1), 0), ((1000000, 1), 1))
        exact(self, behind(((1, 999999), 2), 1), ((1, 1000000), 2))
        exact(self, behind(((1, 1), 999999), 1), ((1, 1000000), 999999))
        exact(self, behind(((1, 1), 1000000), 1), ((1, 1000000), 1000000))
        exact(self, behind(((1000000,) * 8, 1000000), 7), ((1000000,) * 8, 1000000))

    def test_a_plan_stands_behind_each_sign(self):
        for plan in PLANS:
            for sign in range(len(plan[0])):
                self.assertIsNone(need_plan(behind(plan, sign)))


class OneSignTest(unittest.TestCase):
    """What share and behind refuse alike."""

    def test_what_is_no_sign_is_refused(self):
        for function in (share, behind):
            for plan in PLANS:
                bad_signs = NO_WHOLES + [-1, len(plan[0]), len(plan[0]) + 1, -HUGE, HUGE]
                for at, bad in enumerate(bad_signs):
                    with self.subTest(function=function.__name__, plan=plan, at=at):
                        refused(self, BadSign, function, plan, bad)

    def test_a_bad_plan_comes_before_a_bad_sign(self):
        for function in (share, behind):
            for at, bad in enumerate(BAD_PLANS):
                for sign in (0, 1, -1, 9, None, True, SLY):
                    with self.subTest(function=function.__name__, at=at):
                        refused(self, BadPlan, function, bad, sign)


class NeedSignsTest(unittest.TestCase):
    def test_texts_of_none_of_one_and_of_60_signs(self):
        for plan in PLANS:
            last = len(plan[0]) - 1
            for signs in ([], [0], [last], [0] * 60, [last] * 60, [0, last] * 30):
                with Unchanged(self, plan, signs):
                    self.assertIsNone(need_signs(plan, signs))

    def test_too_many_signs(self):
        for many in (61, 62, 1000):
            refused(self, BadSign, need_signs, ((1, 1), 0), [0] * many)

    def test_a_wrong_sign_at_any_place(self):
        for plan in (((1, 1), 0), ((1,) * 8, 3)):
            for many in (1, 2, 60):
                for at in range(many):
                    for bad in (-1, len(plan[0]), True, False, None, 1.0, "0", [0], SLY):
                        signs = [0] * many
                        signs[at] = bad
                        refused(self, BadSign, need_signs, plan, signs)

    def test_other_wrong_signs(self):
        for at, bad in enumerate(NO_WHOLES + [-HUGE, HUGE]):
            with self.subTest(at=at):
                refused(self, BadSign, need_signs, ((1, 1), 0), [0, bad])

    def test_what_is_no_list(self):
        for at, bad in enumerate(NO_LISTS):
            with self.subTest(at=at):
                refused(self, BadSign, need_signs, ((1, 1), 0), bad)

    def test_a_bad_plan_comes_before_bad_signs(self):
        for at, bad in enumerate(BAD_PLANS):
            for signs in ([], [0], [9], [0] * 61, None, SLY):
                with self.subTest(at=at):
                    refused(self, BadPlan, need_signs, bad, signs)
