import unittest

from partline.errors import BadCount, BadFigures, BadPlan
from partline.figures import pressed
from partline.reading import certain, read
from partline.stretches import stretch_of
from tests.samples import (
    BAD_COUNTS, BAD_FIGURES, BAD_PLANS, LIMIT_PLANS, PLANS, SLY, Unchanged, ends, exact, figure_ends,
    figure_lists, lies, long_texts, refused, texts,
)

PLAN = ((2, 1, 1), 1)
SMALL_PLANS = [((1, 1), 0), ((1, 1), 1), ((3, 1), 2), ((2, 1, 1), 1), ((1, 5, 2), 0)]


def searched(plan, most, figures):
    """The signs that are certain by figures, by trying all texts, the longest first."""
    for many in range(most, -1, -1):
        for signs in texts(plan, many):
            if lies(figure_ends(figures), ends(stretch_of(plan, signs))):
                return signs


class CertainTest(unittest.TestCase):
    def test_worked_out_by_hand(self):
        exact(self, certain(PLAN, 2, [1, 0, 0, 0]), [1, 0])
        exact(self, certain(PLAN, 2, [1, 0, 0]), [1])
        exact(self, certain(PLAN, 2, [1, 0]), [1])
        exact(self, certain(PLAN, 2, [1]), [])
        exact(self, certain(PLAN, 1, [0]), [0])
        exact(self, certain(PLAN, 2, [0]), [0])

    def test_no_figures(self):
        for plan in PLANS + LIMIT_PLANS:
            for many in (0, 1, 2, 60):
                exact(self, certain(plan, many, []), [])

    def test_all_few_figures_by_trying_all_texts(self):
        for plan in SMALL_PLANS:
            for most in range(4):
                for many in range(7):
                    for figures in figure_lists(many):
                        exact(self, certain(plan, most, figures), searched(plan, most, figures))

    def test_no_signs(self):
        for plan in PLANS + LIMIT_PLANS:
            for figures in ([], [0], [1], [0, 1, 1], [1] * 4000):
                exact(self, certain(plan, 0, figures), [])

    def test_no_more_signs_than_asked_for(self):
        for many in (1, 2, 59, 60):
            exact(self, certain(((1, 1), 0), many, [0, 1] * 2000), ([0, 1] * 30)[:many])

    def test_figures_with_one_turned(self):
        for plan in SMALL_PLANS:
            for signs in texts(plan, 3):
                figures = pressed(plan, signs)
                for at in range(len(figures)):
                    turned = list(figures)
                    turned[at] = 1 - turned[at]
                    exact(self, certain(plan, 3, turned), searched(plan, 3, turned))

    def test_figures_with_the_first_one_turned(self):
        exact(self, certain(((1, 1), 0), 4, [0, 1, 1, 0]), [0, 1, 1, 0])
        exact(self, certain(((1, 1), 0), 4, [1, 1, 1, 0]), [1, 1, 1, 0])

    def test_cut_short_by_each_number_of_figures(self):
        for plan in SMALL_PLANS:
            for signs in texts(plan, 3):
                figures = pressed(plan, signs)
                for cut in range(len(figures)):
                    told = certain(plan, 3, figures[:cut])
                    exact(self, told, searched(plan, 3, figures[:cut]))
                    self.assertLess(len(told), 3)
                    self.assertEqual(told, signs[:len(told)])


class ReadTest(unittest.TestCase):
    def test_every_text_of_small_plans_comes_back(self):
        for plan in PLANS:
            for many in range(5 if len(plan[0]) < 5 else 4):
                for signs in texts(plan, many):
                    figures = pressed(plan, signs)
                    with Unchanged(self, plan, signs, figures):
                        exact(self, read(plan, many, figures), signs)
                        exact(self, certain(plan, many, figures), signs)

    def test_whatever_stands_behind(self):
        further = [figures for many in range(1, 5) for figures in figure_lists(many)]
        for plan in SMALL_PLANS:
            for signs in texts(plan, 3):
                figures = pressed(plan, signs)
                for more in further:
                    exact(self, read(plan, 3, figures + more), signs)
                    exact(self, certain(plan, 3, figures + more), signs)

    def test_60_signs(self):
        for plan in PLANS + LIMIT_PLANS:
            for signs in long_texts(plan):
                with self.subTest(plan=plan, signs=signs):
                    figures = pressed(plan, signs)
                    exact(self, read(plan, 60, figures), signs)
                    left = 4000 - len(figures)
                    for more in ([0] * left, [1] * left, ([0, 1, 1] * left)[:left]):
                        exact(self, read(plan, 60, figures + more), signs)
                    refused(self, BadFigures, read, plan, 60, figures[:-1])

    def test_fewer_signs(self):
        for plan in PLANS + LIMIT_PLANS:
            for signs in long_texts(plan):
                figures = pressed(plan, signs)
                for many in (0, 1, 2, 31, 59):
                    exact(self, read(plan, many, figures), signs[:many])
                    exact(self, certain(plan, many, figures), signs[:many])

    def test_no_text_begins_with_another_one_with_as_many_signs(self):
        for plan in SMALL_PLANS:
            for many in range(5):
                told = [pressed(plan, signs) for signs in texts(plan, many)]
                for one in told:
                    for other in told:
                        if one != other:
                            self.assertNotEqual(other[:len(one)], one)
                self.assertEqual(len(told), len(plan[0]) ** many)

    def test_fewer_certain_signs_are_refused(self):
        for plan in SMALL_PLANS:
            for most in range(4):
                for many in range(7):
                    for figures in figure_lists(many):
                        awaited = searched(plan, most, figures)
                        if len(awaited) == most:
                            exact(self, read(plan, most, figures), awaited)
                        else:
                            refused(self, BadFigures, read, plan, most, figures)

    def test_figures_that_were_cut_short(self):
        for plan in PLANS:
            for many in (1, 2, 3):
                for signs in texts(plan, many)[:40]:
                    figures = pressed(plan, signs)
                    for cut in range(len(figures)):
                        refused(self, BadFigures, read, plan, many, figures[:cut])

    def test_more_signs_than_figures_tell(self):
        refused(self, BadFigures, read, ((1, 1), 0), 1, [])
        refused(self, BadFigures, read, ((1, 1), 0), 60, [0] * 59)
        exact(self, read(((1, 1), 0), 60, [0] * 60), [0] * 60)

    def test_figures_near_the_border_of_two_signs(self):
        # The border is 2/3, which the figures 1, 0, 1, 0 and so on lead to.
        plan = ((2, 1), 0)
        refused(self, BadFigures, read, plan, 1, [1])
        refused(self, BadFigures, read, plan, 1, [1, 0, 1, 0, 1, 0] * 666)
        exact(self, read(plan, 1, [1, 0, 0]), [0])
        exact(self, read(plan, 1, [1, 1]), [1])

    def test_no_signs(self):
        for plan in PLANS:
            exact(self, read(plan, 0, []), [])
            exact(self, read(plan, 0, [1, 0, 1]), [])


class RefusedTest(unittest.TestCase):
    """What certain and read refuse alike."""

    def test_the_limits_are_let_by(self):
        for function in (certain, read):
            exact(self, function(((1, 1), 0), 60, [1] * 4000), [1] * 60)
            exact(self, function(((1, 1), 0), 0, [1] * 4000), [])

    def test_what_is_no_plan(self):
        for function in (certain, read):
            for at, bad in enumerate(BAD_PLANS):
                with self.subTest(function=function.__name__, at=at):
                    refused(self, BadPlan, function, bad, 0, [])

    def test_what_is_no_number_of_signs(self):
        for function in (certain, read):
            for at, bad in enumerate(BAD_COUNTS):
                with self.subTest(function=function.__name__, at=at):
                    refused(self, BadCount, function, PLAN, bad, [0, 0, 0])

    def test_what_is_no_list_of_figures(self):
        for function in (certain, read):
            for at, bad in enumerate(BAD_FIGURES):
                for many in (0, 1, 60):
                    with self.subTest(function=function.__name__, at=at, many=many):
                        refused(self, BadFigures, function, PLAN, many, bad)

    def test_all_at_once_in_their_order(self):
        for function in (certain, read):
            for bad_plan in (None, SLY, [], ((1,), 0), ((1, 1), -1)):
                for bad_count in (0, -1, 61, True, None, SLY):
                    for bad_figures in ([], [2], [0] * 4001, None, SLY):
                        refused(self, BadPlan, function, bad_plan, bad_count, bad_figures)
            for bad_count in (-1, 61, True, None, SLY):
                for bad_figures in ([], [2], [0] * 4001, None, SLY):
                    refused(self, BadCount, function, PLAN, bad_count, bad_figures)

    def test_a_refusal_changes_nothing_later(self):
        for function in (certain, read):
            refused(self, BadFigures, function, PLAN, 2, [2])
            exact(self, function(PLAN, 2, [1, 0, 0, 0]), [1, 0])


class AskersOwnTest(unittest.TestCase):
    def test_a_list_that_is_changed_behind_the_call_changes_nothing(self):
        for function in (certain, read):
            figures = [1, 0, 0, 0]
            told = function(PLAN, 2, figures)
            figures[0] = 0
            figures.append(1)
            exact(self, told, [1, 0])
            exact(self, function(PLAN, 2, [1, 0, 0, 0]), [1, 0])

    def test_asked_again_behind_a_change_of_what_was_told(self):
        for function in (certain, read):
            for many, figures, awaited in ((2, [1, 0, 0, 0], [1, 0]), (0, [], [])):
                told = function(PLAN, many, figures)
                told.append(1)
                told[0] = None
                exact(self, function(PLAN, many, figures), awaited)
