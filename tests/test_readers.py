import unittest

from partline.errors import BadCount, BadFigures, BadPlan
from partline.figures import pressed
from partline.readers import Reader
from partline.stretches import stretch_of
from tests.samples import (
    BAD_COUNTS, BAD_FIGURES, BAD_PLANS, GREATEST, LIMIT_PLANS, PLANS, SLY, Unchanged, cuts, ends, exact,
    figure_ends, lies, long_texts, refused, texts,
)

PLAN = ((2, 1, 1), 1)
SIZES = [(1,), (2,), (3, 1), (1, 2, 3, 5, 8), (1000,), (5000,)]


def certain_many(plan, signs, figures):
    """How many of a text's signs are certain by figures, by the words of the document."""
    many = 0
    while many < len(signs) and lies(figure_ends(figures), ends(stretch_of(plan, signs[:many + 1]))):
        many += 1
    return many


class ReaderCase(unittest.TestCase):
    def check_reader(self, reader, told, many):
        exact(self, reader.told(), told)
        exact(self, reader.lacking(), many - len(told))

    def check_pieces(self, plan, signs, pieces):
        """Let a reader take a text's figures in pieces, and look at it behind each of them."""
        many = len(signs)
        reader = Reader(plan, many)
        self.check_reader(reader, [], many)
        taken = []
        told = 0
        for piece in pieces:
            with Unchanged(self, plan, piece):
                fresh = reader.take(piece)
            taken = taken + piece
            now = certain_many(plan, signs, taken)
            exact(self, fresh, signs[told:now])
            told = now
            self.check_reader(reader, signs[:told], many)
        return reader


class TakeTest(ReaderCase):
    def test_worked_out_by_hand(self):
        reader = Reader(PLAN, 2)
        exact(self, reader.take([1]), [])
        exact(self, reader.lacking(), 2)
        exact(self, reader.take([0]), [1])
        exact(self, reader.told(), [1])
        exact(self, reader.lacking(), 1)
        exact(self, reader.take([0]), [])
        exact(self, reader.take([0]), [0])
        self.check_reader(reader, [1, 0], 2)
        exact(self, reader.take([1, 1, 1]), [])
        self.check_reader(reader, [1, 0], 2)

    def test_figures_one_by_one_in_pieces_and_all_at_once(self):
        for plan in PLANS:
            for signs in texts(plan, 3)[::5]:
                figures = pressed(plan, signs)
                for sizes in SIZES:
                    reader = self.check_pieces(plan, signs, cuts(figures, sizes))
                    self.check_reader(reader, signs, 3)

    def test_none_at_a_time(self):
        for plan in PLANS:
            signs = [1, 0, 1]
            pieces = [[]]
            for figure in pressed(plan, signs):
                pieces += [[], [figure], []]
            self.check_reader(self.check_pieces(plan, signs, pieces), signs, 3)

    def test_60_signs_in_pieces(self):
        for plan in PLANS[:5]:
            for signs in long_texts(plan)[2:5]:
                pieces = cuts(pressed(plan, signs), (1, 30, 7))
                self.check_reader(self.check_pieces(plan, signs, pieces), signs, 60)

    def test_several_signs_by_one_figure(self):
        reader = Reader(((1, 999999), 0), 60)
        told = reader.take([1])
        self.assertGreater(len(told), 10)
        exact(self, told, [1] * 60)

    def test_further_figures_are_let_by(self):
        for plan in PLANS:
            for further in ([], [0], [1], [1, 0, 1], [1] * 1000):
                reader = Reader(plan, 2)
                reader.take(pressed(plan, [0, 1]))
                self.check_reader(reader, [0, 1], 2)
                for _ in range(3):
                    exact(self, reader.take(further), [])
                    self.check_reader(reader, [0, 1], 2)

    def test_further_figures_in_the_same_piece(self):
        for plan in PLANS:
            reader = Reader(plan, 2)
            exact(self, reader.take(pressed(plan, [0, 1]) + [1, 0, 1, 1]), [0, 1])
            self.check_reader(reader, [0, 1], 2)

    def test_no_signs(self):
        for plan in PLANS:
            reader = Reader(plan, 0)
            self.check_reader(reader, [], 0)
            for further in ([], [0], [1, 1], [0, 1] * 1000):
                exact(self, reader.take(further), [])
                self.check_reader(reader, [], 0)

    def test_two_readers_side_by_side(self):
        plan = ((1, 5, 2), 1)
        one = Reader(plan, 3)
        other = Reader(plan, 4)
        one_figures = pressed(plan, [1, 2, 0])
        other_figures = pressed(plan, [0, 0, 2, 1])
        one_told = []
        other_told = []
        for at in range(max(len(one_figures), len(other_figures))):
            one_told += one.take(one_figures[at:at + 1])
            other_told += other.take(other_figures[at:at + 1])
            self.check_reader(one, one_told, 3)
            self.check_reader(other, other_told, 4)
        exact(self, one_told, [1, 2, 0])
        exact(self, other_told, [0, 0, 2, 1])


class LimitTest(ReaderCase):
    def test_4000_figures_all_at_once(self):
        reader = Reader(((1, 1), 0), 60)
        exact(self, reader.take([1, 0] * 2000), [1, 0] * 30)
        exact(self, reader.take([]), [])
        for bad in ([0], [1], [0, 0], [0] * 4000):
            refused(self, BadFigures, reader.take, bad)
        exact(self, reader.take([]), [])
        self.check_reader(reader, [1, 0] * 30, 60)

    def test_4000_figures_in_pieces(self):
        reader = Reader(((2, 1), 0), 1)
        for _ in range(3):
            exact(self, reader.take([1, 0] * 500), [])
        exact(self, reader.take([1, 0] * 499), [])
        for _ in range(3):
            refused(self, BadFigures, reader.take, [1, 0, 0])
            self.check_reader(reader, [], 1)
        exact(self, reader.take([1]), [])
        refused(self, BadFigures, reader.take, [1, 1])
        # Only with the 4000th figure the sign is certain.
        exact(self, reader.take([1]), [1])
        self.check_reader(reader, [1], 1)
        refused(self, BadFigures, reader.take, [0])
        self.check_reader(reader, [1], 1)

    def test_further_figures_count_too(self):
        for many in (0, 1):
            reader = Reader(((1, 1), 0), many)
            exact(self, reader.take([1] * 10), [1] * many)
            exact(self, reader.take([0] * 3990), [])
            refused(self, BadFigures, reader.take, [0])

    def test_4000_figures_one_by_one_with_the_greatest_counts(self):
        for plan in LIMIT_PLANS:
            signs = long_texts(plan)[4]
            figures = pressed(plan, signs)
            reader = Reader(plan, 60)
            told = []
            for at in range(4000):
                told += reader.take([figures[at] if at < len(figures) else at % 2])
            exact(self, told, signs)
            self.check_reader(reader, signs, 60)
            refused(self, BadFigures, reader.take, [0])

    def test_4000_figures_that_tell_no_sign(self):
        # They lead to 2/3, the border of two signs, ever nearer.
        for counts in ((2, 1), (GREATEST,) * 6):
            reader = Reader((counts, GREATEST), 60)
            for at in range(4000):
                exact(self, reader.take([1 - at % 2]), [])
            self.check_reader(reader, [], 60)


class RefusedTest(ReaderCase):
    def test_what_is_no_plan(self):
        for at, bad in enumerate(BAD_PLANS):
            with self.subTest(at=at):
                refused(self, BadPlan, Reader, bad, 1)

    def test_what_is_no_number_of_signs(self):
        for at, bad in enumerate(BAD_COUNTS):
            with self.subTest(at=at):
                refused(self, BadCount, Reader, PLAN, bad)
        for many in (0, 1, 59, 60):
            self.check_reader(Reader(PLAN, many), [], many)

    def test_a_bad_plan_comes_before_a_bad_count(self):
        for bad in (None, SLY, [], ((1,), 0), ((1, 1), -1)):
            for many in (-1, 61, True, None, SLY):
                refused(self, BadPlan, Reader, bad, many)

    def test_a_refused_take_changes_nothing(self):
        figures = pressed(PLAN, [1, 0, 2])
        for many in (3, 0):
            for cut in (0, 3, len(figures)):
                reader = Reader(PLAN, many)
                told = reader.take(figures[:cut])
                for at, bad in enumerate(BAD_FIGURES):
                    with self.subTest(at=at, many=many, cut=cut):
                        refused(self, BadFigures, reader.take, bad)
                        self.check_reader(reader, told, many)
                told = told + reader.take(figures[cut:])
                exact(self, told, [1, 0, 2][:many])
                self.check_reader(reader, told, many)
                exact(self, reader.take([0] * (4000 - len(figures))), [])


class AskersOwnTest(ReaderCase):
    def test_a_list_that_is_changed_behind_the_call_changes_nothing(self):
        reader = Reader(PLAN, 2)
        figures = [1, 0]
        exact(self, reader.take(figures), [1])
        figures[0] = 0
        figures.append(1)
        exact(self, reader.take([0, 0]), [0])
        self.check_reader(reader, [1, 0], 2)

    def test_lists_that_were_told_are_the_askers_own(self):
        reader = Reader(PLAN, 2)
        before = reader.told()
        fresh = reader.take([1, 0])
        middle = reader.told()
        exact(self, before, [])
        before.append(7)
        fresh.append(8)
        fresh[0] = 9
        middle.clear()
        self.check_reader(reader, [1], 2)
        last = reader.take([0, 0])
        exact(self, last, [0])
        last.clear()
        exact(self, reader.take([0]), [])
        self.check_reader(reader, [1, 0], 2)

    def test_what_was_told_stays_as_it_was(self):
        reader = Reader(PLAN, 3)
        none = reader.take([])
        first = reader.take([1, 0])
        told = reader.told()
        figures = pressed(PLAN, [1, 0, 2])
        reader.take(figures[2:])
        self.check_reader(reader, [1, 0, 2], 3)
        exact(self, none, [])
        exact(self, first, [1])
        exact(self, told, [1])
