import unittest

from partline.errors import BadPlan, BadSign, Ended
from partline.figures import pressed
from partline.reading import read
from partline.stretches import stretch_of
from partline.writers import Writer
from tests.samples import (
    BAD_PLANS, LIMIT_PLANS, NO_LISTS, PLANS, SLY, Unchanged, bad_signs, cuts, ends, exact, figure_ends,
    figure_lists, lies, long_texts, refused, texts,
)

PLAN = ((2, 1, 1), 1)
SIZES = [(1,), (2,), (3, 1), (1, 2, 3, 5, 8), (60,)]


def searched(stretch):
    """The longest figures whose stretch one lies within, by trying all lists of figures."""
    found = []
    many = 0
    while True:
        around = [figures for figures in figure_lists(many) if lies(ends(stretch), figure_ends(figures))]
        if not around:
            return found
        found = around[0]
        many += 1


class WriterCase(unittest.TestCase):
    def check_certain(self, figures, stretch):
        """Check the figures that are certain by signs with this stretch, by the words of the document."""
        self.assertTrue(lies(ends(stretch), figure_ends(figures)))
        # Longer ones would go on from these, since only they lie around them.
        for figure in (0, 1):
            self.assertFalse(lies(ends(stretch), figure_ends(figures + [figure])))

    def check_pieces(self, plan, signs, pieces):
        """Let a writer take a text's signs in pieces, and look at it behind each of them."""
        writer = Writer(plan)
        exact(self, writer.told(), [])
        taken = []
        told = []
        for piece in pieces:
            with Unchanged(self, plan, piece):
                fresh = writer.take(piece)
            taken = taken + piece
            told = told + fresh
            exact(self, writer.told(), told)
            self.check_certain(told, stretch_of(plan, taken))
        told = told + writer.end()
        exact(self, told, pressed(plan, signs))
        exact(self, writer.told(), told)


class CertainBySignsTest(WriterCase):
    def test_worked_out_by_hand(self):
        exact(self, Writer(((1, 1), 0)).take([0, 1, 1]), [0, 1, 1])
        exact(self, Writer(((1, 2), 0)).take([0]), [0])
        exact(self, Writer(((1, 2), 0)).take([1]), [])
        exact(self, Writer(PLAN).take([0]), [0])
        exact(self, Writer(PLAN).take([1]), [1, 0])
        exact(self, Writer(PLAN).take([2]), [1, 1])

    def test_no_signs(self):
        for plan in PLANS + LIMIT_PLANS:
            exact(self, Writer(plan).take([]), [])

    def test_all_texts_of_small_plans_by_trying_all_figures(self):
        for plan in PLANS[:5]:
            for many in range(4):
                for signs in texts(plan, many):
                    stretch = stretch_of(plan, signs)
                    told = Writer(plan).take(signs)
                    self.check_certain(told, stretch)
                    if len(told) < 9:
                        exact(self, told, searched(stretch))

    def test_each_text_that_begins_with_the_signs_begins_with_the_figures(self):
        for plan in PLANS[:5]:
            for signs in [signs for many in range(5) for signs in texts(plan, many)]:
                figures = pressed(plan, signs)
                for cut in range(len(signs) + 1):
                    told = Writer(plan).take(signs[:cut])
                    self.assertEqual(figures[:len(told)], told)

    def test_60_signs(self):
        for plan in PLANS + LIMIT_PLANS:
            for signs in long_texts(plan):
                for cut in (1, 2, 30, 59, 60):
                    told = Writer(plan).take(signs[:cut])
                    self.check_certain(told, stretch_of(plan, signs[:cut]))
                    self.assertEqual(pressed(plan, signs)[:len(told)], told)


class TakeAndEndTest(WriterCase):
    def test_worked_out_by_hand(self):
        writer = Writer(PLAN)
        exact(self, writer.take([1]), [1, 0])
        exact(self, writer.told(), [1, 0])
        exact(self, writer.take([0]), [0])
        exact(self, writer.told(), [1, 0, 0])
        exact(self, writer.end(), [0])
        exact(self, writer.told(), [1, 0, 0, 0])

    def test_signs_one_by_one_in_pieces_and_all_at_once(self):
        for plan in PLANS:
            for signs in texts(plan, 3)[::5]:
                for sizes in SIZES:
                    self.check_pieces(plan, signs, cuts(signs, sizes))

    def test_none_at_a_time(self):
        for plan in PLANS:
            self.check_pieces(plan, [1, 0, 1], [[], [1], [], [], [0], [1], []])

    def test_60_signs_in_pieces(self):
        for plan in PLANS + LIMIT_PLANS:
            for signs in long_texts(plan)[2:5]:
                for sizes in ((7, 30, 1), (60,)):
                    self.check_pieces(plan, signs, cuts(signs, sizes))

    def test_60_signs_one_by_one_are_read_back(self):
        for plan in PLANS + LIMIT_PLANS:
            for signs in long_texts(plan):
                writer = Writer(plan)
                told = []
                for sign in signs:
                    told += writer.take([sign])
                told += writer.end()
                exact(self, writer.told(), told)
                exact(self, told, pressed(plan, signs))
                exact(self, read(plan, 60, told), signs)

    def test_the_end_of_no_signs(self):
        for plan in PLANS:
            for takes in (0, 1, 3):
                writer = Writer(plan)
                for _ in range(takes):
                    exact(self, writer.take([]), [])
                exact(self, writer.end(), [])
                exact(self, writer.told(), [])

    def test_an_end_that_has_no_figures_left(self):
        writer = Writer(((1, 1), 0))
        exact(self, writer.take([1, 0]), [1, 0])
        exact(self, writer.end(), [])
        exact(self, writer.told(), [1, 0])

    def test_figures_that_are_certain_late(self):
        # The border of the two signs is 1/2, and the text stays around it.
        writer = Writer(((1, 2), 0))
        exact(self, writer.take([1]), [])
        exact(self, writer.take([0]), [])
        exact(self, writer.take([1]), [])
        exact(self, writer.told(), [])
        told = writer.end()
        exact(self, told, pressed(((1, 2), 0), [1, 0, 1]))
        self.assertGreater(len(told), 2)

    def test_two_writers_side_by_side(self):
        plan = ((1, 5, 2), 1)
        one = Writer(plan)
        other = Writer(plan)
        one_signs = [1, 2, 0, 0, 1]
        other_signs = [0, 0, 2, 1, 2]
        one_told = []
        other_told = []
        for at in range(5):
            one_told += one.take([one_signs[at]])
            other_told += other.take([other_signs[at]])
            exact(self, one.told(), one_told)
            exact(self, other.told(), other_told)
        one_told += one.end()
        exact(self, one_told, pressed(plan, one_signs))
        other_told += other.take([0])
        other_told += other.end()
        exact(self, other_told, pressed(plan, other_signs + [0]))


class LimitTest(WriterCase):
    def test_60_signs_are_taken_and_no_more(self):
        for plan in PLANS:
            for signs in long_texts(plan):
                for sizes in ((1,), (59, 1), (60,)):
                    writer = Writer(plan)
                    for piece in cuts(signs, sizes):
                        writer.take(piece)
                    told = writer.told()
                    for bad in ([0], [1], [0, 1], [0] * 60, [0] * 61):
                        refused(self, BadSign, writer.take, bad)
                        exact(self, writer.told(), told)
                    exact(self, writer.take([]), [])
                    exact(self, told + writer.end(), pressed(plan, signs))

    def test_a_piece_that_is_too_long_changes_nothing(self):
        writer = Writer(PLAN)
        told = writer.take([0, 1, 2] * 19)
        for _ in range(3):
            refused(self, BadSign, writer.take, [0, 1, 2, 0])
        told += writer.take([2, 2, 2])
        refused(self, BadSign, writer.take, [2])
        exact(self, told + writer.end(), pressed(PLAN, [0, 1, 2] * 19 + [2, 2, 2]))


class RefusedTest(WriterCase):
    def test_what_is_no_plan(self):
        for at, bad in enumerate(BAD_PLANS):
            with self.subTest(at=at):
                refused(self, BadPlan, Writer, bad)

    def test_a_refused_take_changes_nothing(self):
        for plan in PLANS:
            for before, behind in (([], [1, 0]), ([1, 0, 1], [0, 0]), ([0], [])):
                writer = Writer(plan)
                told = writer.take(before)
                for at, bad in enumerate(bad_signs(plan)):
                    with self.subTest(plan=plan, before=before, at=at):
                        refused(self, BadSign, writer.take, bad)
                        exact(self, writer.told(), told)
                told = told + writer.take(behind)
                told = told + writer.end()
                exact(self, told, pressed(plan, before + behind))

    def test_ended_behind_the_end(self):
        for signs in ([], [1, 0], [0] * 60):
            writer = Writer(PLAN)
            writer.take(signs)
            writer.end()
            told = writer.told()
            for bad in [[], [0], [9], [0] * 61] + NO_LISTS:
                refused(self, Ended, writer.take, bad)
                exact(self, writer.told(), told)
            for _ in range(3):
                refused(self, Ended, writer.end)
                exact(self, writer.told(), told)
            refused(self, Ended, writer.take, SLY)
            exact(self, told, pressed(PLAN, signs))

    def test_other_writers_go_on_behind_an_end(self):
        one = Writer(PLAN)
        other = Writer(PLAN)
        one.end()
        exact(self, other.take([1]), [1, 0])
        refused(self, Ended, one.take, [1])
        exact(self, other.take([0]), [0])
        exact(self, other.end(), [0])


class AskersOwnTest(WriterCase):
    def test_a_list_that_is_changed_behind_the_call_changes_nothing(self):
        writer = Writer(PLAN)
        signs = [1]
        exact(self, writer.take(signs), [1, 0])
        signs[0] = 2
        signs.append(2)
        exact(self, writer.take([0]), [0])
        exact(self, writer.end(), [0])
        exact(self, writer.told(), [1, 0, 0, 0])

    def test_lists_that_were_told_are_the_askers_own(self):
        writer = Writer(PLAN)
        writer.told().append(7)
        fresh = writer.take([1])
        middle = writer.told()
        fresh.append(8)
        fresh[0] = 9
        middle.clear()
        exact(self, writer.told(), [1, 0])
        exact(self, writer.take([0]), [0])
        last = writer.end()
        exact(self, last, [0])
        last.clear()
        writer.told().clear()
        exact(self, writer.told(), [1, 0, 0, 0])

    def test_what_was_told_stays_as_it_was(self):
        writer = Writer(PLAN)
        none = writer.take([])
        empty = writer.told()
        first = writer.take([1])
        told = writer.told()
        writer.take([0])
        writer.end()
        exact(self, none, [])
        exact(self, empty, [])
        exact(self, first, [1, 0])
        exact(self, told, [1, 0])
        exact(self, writer.told(), [1, 0, 0, 0])
