import inspect
import unittest

from leastasks import rows
from leastasks.errors import NoAsk, WrongSize
from leastasks.rows import (
    part_at, part_number, part_within, parts_of, row_at, row_fits, row_number, rows_in, rows_of, told_further,
)
from wanted import Case, wanted_parts, wanted_rows

COUNTS = range(1, 7)
FEW = range(1, 5)
WRONG_COUNTS = (0, -1, -2, 7, 8, 9)
FAR = 10 ** 12


def tells_what_it_has(row, part):
    for spot in range(len(part)):
        if part[spot] == 0 and row[spot] != 0:
            return False
        if part[spot] == 1 and row[spot] != 1:
            return False
    return True


def rows_found(part):
    return [row for row in wanted_rows(len(part)) if tells_what_it_has(row, part)]


class RowCase(Case):
    def assert_tuple_of_numbers(self, told):
        self.assertIs(type(told), tuple)
        for figure in told:
            self.assertIs(type(figure), int)

    def assert_list_of_tuples(self, told, wanted):
        self.assertIs(type(told), list)
        self.assertEqual(told, wanted)
        for one in told:
            self.assert_tuple_of_numbers(one)


class Interface(RowCase):
    def test_the_arguments_are_called_as_told(self):
        wanted = {
            "rows_of": ["many"],
            "parts_of": ["many"],
            "row_at": ["many", "number"],
            "part_at": ["many", "number"],
            "row_number": ["row"],
            "part_number": ["part"],
            "row_fits": ["row", "part"],
            "part_within": ["part", "other"],
            "rows_in": ["part"],
            "told_further": ["part", "spot", "answer"],
        }
        for name, arguments in wanted.items():
            self.assertEqual(list(inspect.signature(getattr(rows, name)).parameters), arguments)


class Rows(RowCase):
    def test_two_places_written_out(self):
        self.assert_list_of_tuples(rows_of(1), [(0,), (1,)])
        self.assert_list_of_tuples(rows_of(2), [(0, 0), (0, 1), (1, 0), (1, 1)])

    def test_all_rows_in_counting_order(self):
        for many in COUNTS:
            self.assert_list_of_tuples(rows_of(many), wanted_rows(many))

    def test_a_row_by_its_number_and_its_number_by_the_row(self):
        for many in COUNTS:
            for number, row in enumerate(wanted_rows(many)):
                self.assertEqual(row_at(many, number), row)
                self.assert_tuple_of_numbers(row_at(many, number))
                self.assertEqual(row_number(row), number)
                self.assertIs(type(row_number(row)), int)

    def test_wrong_counts(self):
        for many in WRONG_COUNTS + (FAR, -FAR):
            self.assert_refused(WrongSize, rows_of, many)
            for number in (0, 1, 5):
                self.assert_refused(WrongSize, row_at, many, number)


class Parts(RowCase):
    def test_two_places_written_out(self):
        self.assert_list_of_tuples(parts_of(1), [(0,), (1,), (2,)])
        self.assert_list_of_tuples(
            parts_of(2),
            [(0, 0), (0, 1), (0, 2), (1, 0), (1, 1), (1, 2), (2, 0), (2, 1), (2, 2)],
        )

    def test_all_parts_in_counting_order(self):
        for many in COUNTS:
            self.assert_list_of_tuples(parts_of(many), wanted_parts(many))

    def test_the_last_part_is_open_everywhere(self):
        for many in COUNTS:
            self.assertEqual(parts_of(many)[-1], (2,) * many)
            self.assertEqual(part_at(many, 3 ** many - 1), (2,) * many)
            self.assertEqual(part_number((2,) * many), 3 ** many - 1)

    def test_a_part_by_its_number_and_its_number_by_the_part(self):
        for many in COUNTS:
            for number, part in enumerate(wanted_parts(many)):
                self.assertEqual(part_at(many, number), part)
                self.assert_tuple_of_numbers(part_at(many, number))
                self.assertEqual(part_number(part), number)
                self.assertIs(type(part_number(part)), int)

    def test_wrong_counts(self):
        for many in WRONG_COUNTS + (FAR, -FAR):
            self.assert_refused(WrongSize, parts_of, many)
            for number in (0, 1, 5):
                self.assert_refused(WrongSize, part_at, many, number)


class Fitting(RowCase):
    def test_written_out(self):
        self.assertIs(row_fits((0, 1, 1), (0, 2, 1)), True)
        self.assertIs(row_fits((0, 1, 1), (0, 2, 0)), False)
        self.assert_list_of_tuples(rows_in((2, 1, 2)), [(0, 1, 0), (0, 1, 1), (1, 1, 0), (1, 1, 1)])

    def test_every_row_and_every_part(self):
        for many in FEW:
            for part in wanted_parts(many):
                for row in wanted_rows(many):
                    self.assertIs(row_fits(row, part), tells_what_it_has(row, part), (row, part))

    def test_the_rows_in_every_part(self):
        for many in COUNTS:
            for part in wanted_parts(many):
                self.assert_list_of_tuples(rows_in(part), rows_found(part))
                self.assertEqual(len(rows_in(part)), 2 ** part.count(2))

    def test_a_row_alone_fits_the_part_that_tells_it(self):
        for many in COUNTS:
            for row in wanted_rows(many):
                self.assert_list_of_tuples(rows_in(row), [row])


class ToldFurther(RowCase):
    def test_written_out(self):
        self.assertEqual(told_further((2, 0, 2), 0, 1), (1, 0, 2))
        self.assertEqual(told_further((2, 0, 2), 2, 0), (2, 0, 0))

    def test_every_spot_of_every_part(self):
        for many in COUNTS:
            for part in wanted_parts(many):
                for spot in range(many):
                    for answer in (0, 1):
                        self.assert_told_or_refused(part, spot, answer)

    def assert_told_or_refused(self, part, spot, answer):
        if part[spot] != 2:
            self.assert_refused(NoAsk, told_further, part, spot, answer)
            return
        wanted = list(part)
        wanted[spot] = answer
        self.assertEqual(told_further(part, spot, answer), tuple(wanted))
        self.assert_tuple_of_numbers(told_further(part, spot, answer))

    def test_a_spot_that_the_part_has_not(self):
        for many in COUNTS:
            for part in ((2,) * many, (0,) * many, (1,) * many):
                for spot in (-1, -2, -many, -many - 1, -FAR, many, many + 1, 2 * many, FAR):
                    for answer in (0, 1):
                        self.assert_refused(NoAsk, told_further, part, spot, answer)


class Within(RowCase):
    def test_written_out(self):
        self.assertIs(part_within((0, 1, 2), (0, 2, 2)), True)
        self.assertIs(part_within((0, 2, 2), (0, 1, 2)), False)
        self.assertIs(part_within((0, 1, 2), (1, 2, 2)), False)

    def test_every_two_parts(self):
        for many in FEW:
            found = [(part, set(rows_found(part))) for part in wanted_parts(many)]
            for part, part_rows in found:
                for other, other_rows in found:
                    self.assertIs(part_within(part, other), part_rows <= other_rows, (part, other))

    def test_each_within_itself_and_the_open_one(self):
        for many in COUNTS:
            for part in wanted_parts(many):
                self.assertIs(part_within(part, part), True)
                self.assertIs(part_within(part, (2,) * many), True)

    def test_told_further_is_within_and_not_the_other_way(self):
        for part in wanted_parts(4):
            for spot in [spot for spot in range(4) if part[spot] == 2]:
                further = told_further(part, spot, 1)
                self.assertIs(part_within(further, part), True)
                self.assertIs(part_within(part, further), False)


class Tellings(RowCase):
    def assert_own_list(self, function, argument, wanted):
        first = function(argument)
        kept = function(argument)
        first[0] = "changed"
        first.append("more")
        self.assertEqual(function(argument), wanted)
        first.clear()
        self.assertEqual(function(argument), wanted)
        self.assertEqual(kept, wanted)

    def test_a_told_list_may_be_changed(self):
        for many in COUNTS:
            self.assert_own_list(rows_of, many, wanted_rows(many))
            self.assert_own_list(parts_of, many, wanted_parts(many))
            for part in ((2,) * many, (0,) * many, (1,) * (many - 1) + (2,)):
                self.assert_own_list(rows_in, part, rows_found(part))

    def test_a_changed_list_touches_no_other_function(self):
        rows_of(3).clear()
        parts_of(3).clear()
        rows_in((2, 2, 2)).clear()
        self.assertEqual(row_at(3, 5), (1, 0, 1))
        self.assertEqual(part_at(3, 26), (2, 2, 2))
        self.assertEqual(rows_of(3), wanted_rows(3))
        self.assertEqual(rows_in((2, 2, 2)), wanted_rows(3))

    def test_what_is_handed_in_stays(self):
        part = (2, 0, 1, 2)
        row = (1, 0, 1, 1)
        told_further(part, 0, 1)
        told_further(part, 3, 0)
        rows_in(part)
        part_number(part)
        part_within(part, (2, 2, 2, 2))
        row_fits(row, part)
        row_number(row)
        self.assertEqual(part, (2, 0, 1, 2))
        self.assertEqual(row, (1, 0, 1, 1))


if __name__ == "__main__":
    unittest.main()
