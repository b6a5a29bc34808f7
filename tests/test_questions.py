import inspect
import itertools
import math
import unittest

from leastasks import questions
from leastasks.errors import NoPlace, NoWord, Twice, Unlike, WrongAnswers, WrongSize
from leastasks.questions import (
    answer_to, counted_in, denied, put_in_order, question_made, row_apart, settled_by, sure_of, turned_about,
)
from wanted import WRONG_ORDERS, Case, every_question, fits, wanted_parts, wanted_rows

NAMES = ["rain", "wind", "a", "zzzzzzzz", "all", "abcdefgh"]
COUNTS = range(1, 7)
FEW = range(1, 5)
NO_WORDS = [
    "", "ninelette", "Rain", "raiN", "RAIN", "r4in", "4", "0", " ", "ra in", " rain", "rain ", "ra_in", "(", "~",
]


def answers_of(many, seed):
    # Answers that look like nothing in particular, the same in every run.
    return [(seed * (number + 3) * (number + 7) // 11) % 2 for number in range(2 ** many)]


def some_questions(many):
    if many <= 2:
        return every_question(NAMES[:many])
    made = [question_made(NAMES[:many], answers_of(many, seed)) for seed in (5, 6, 9, 14, 27)]
    made.append(question_made(NAMES[:many], [0] * 2 ** many))
    made.append(question_made(NAMES[:many], [1] * 2 ** many))
    made.append(question_made(NAMES[:many], [0] * (2 ** many - 1) + [1]))
    return made


def answers_by_row(question):
    return dict(zip(wanted_rows(len(question[0])), question[1]))


class QuestionCase(Case):
    def assert_question(self, told, places, answers):
        self.assertEqual(told, (tuple(places), tuple(answers)))
        self.assertEqual([type(told), type(told[0]), type(told[1])], [tuple, tuple, tuple])
        self.assertTrue(all(type(place) is str for place in told[0]))
        self.assertTrue(all(type(answer) is int for answer in told[1]))


class Interface(QuestionCase):
    def test_the_arguments_are_called_as_told(self):
        wanted = {
            "question_made": ["places", "answers"],
            "answer_to": ["question", "row"],
            "settled_by": ["question", "part"],
            "counted_in": ["question", "part"],
            "sure_of": ["question", "part"],
            "row_apart": ["question", "other"],
            "denied": ["question"],
            "turned_about": ["question", "place"],
            "put_in_order": ["question", "places"],
        }
        for name, arguments in wanted.items():
            self.assertEqual(list(inspect.signature(getattr(questions, name)).parameters), arguments)


class Made(QuestionCase):
    def test_of_one_to_six_places(self):
        for many in COUNTS:
            places = NAMES[:many]
            answers = answers_of(many, 5)
            self.assert_question(question_made(places, answers), places, answers)
            self.assert_question(question_made(tuple(places), tuple(answers)), places, answers)
            self.assert_question(question_made(places, tuple(answers)), places, answers)
            self.assert_question(question_made(tuple(places), answers), places, answers)

    def test_of_the_places_of_a_question(self):
        first = question_made(["rain", "wind"], [0, 1, 1, 0])
        self.assert_question(question_made(first[0], [0, 0, 0, 1]), ["rain", "wind"], [0, 0, 0, 1])

    def test_shortest_and_longest_words(self):
        for place in ("a", "z", "aaaaaaaa", "abcdefgh", "stuvwxyz", "ijklmnop", "qr"):
            self.assert_question(question_made([place], [0, 1]), [place], [0, 1])

    def test_lists_changed_behind_the_call(self):
        places = ["rain", "wind"]
        answers = [0, 1, 1, 0]
        question = question_made(places, answers)
        self.assertEqual((places, answers), (["rain", "wind"], [0, 1, 1, 0]))
        places[0] = "sun"
        places.append("more")
        answers.clear()
        self.assert_question(question, ["rain", "wind"], [0, 1, 1, 0])

    def test_wrong_size(self):
        letters = [letter for letter in "abcdefgh"]
        for places in ([], letters[:7], letters, ()):
            for answers in ([], [0], [0, 1], [0] * 2 ** len(places)):
                self.assert_refused(WrongSize, question_made, places, answers)

    def test_no_word(self):
        for wrong in NO_WORDS:
            self.assert_refused(NoWord, question_made, [wrong], [0, 1])
            self.assert_refused(NoWord, question_made, ["a", wrong], [0, 1, 1, 1])
            self.assert_refused(NoWord, question_made, [wrong, "a"], [0, 1, 1, 1])
            self.assert_refused(NoWord, question_made, ["a", "b", "c", "d", "e", wrong], [0] * 64)

    def test_every_sign_that_is_a_small_letter_and_every_other_one(self):
        for sign in [chr(number) for number in range(ord(" "), ord("~") + 1)]:
            for place in (sign, "q" + sign, sign + "q"):
                if "a" <= sign <= "z":
                    self.assert_question(question_made([place], [0, 1]), [place], [0, 1])
                else:
                    self.assert_refused(NoWord, question_made, [place], [0, 1])

    def test_twice(self):
        self.assert_refused(Twice, question_made, ["a", "a"], [0] * 4)
        self.assert_refused(Twice, question_made, ["a", "b", "a"], [0] * 8)
        self.assert_refused(Twice, question_made, ["b", "a", "a"], [0] * 8)
        self.assert_refused(Twice, question_made, ["a", "b", "c", "d", "e", "a"], [0] * 64)

    def test_place_by_place(self):
        self.assert_refused(Twice, question_made, ["a", "a", "B"], [0] * 8)
        self.assert_refused(NoWord, question_made, ["a", "B", "a"], [0] * 8)
        self.assert_refused(NoWord, question_made, ["B", "a", "a"], [0] * 8)
        self.assert_refused(NoWord, question_made, ["B", "B"], [0] * 4)

    def test_wrong_answers(self):
        for many in COUNTS:
            right = [0] * 2 ** many
            for answers in ([], right + [0], right[1:], right + right, right[1:] + [2], [-1] + right[1:]):
                self.assert_refused(WrongAnswers, question_made, NAMES[:many], answers)
        self.assert_refused(WrongAnswers, question_made, ["a"], [0, 10 ** 12])
        self.assert_refused(WrongAnswers, question_made, ["a", "b"], [0, 0, 2, 0])
        self.assert_refused(WrongAnswers, question_made, ["a"], ())
        self.assert_refused(WrongAnswers, question_made, ["a"], (0, 1, 0))

    def test_of_two_faults_the_first(self):
        self.assert_refused(WrongSize, question_made, ["A"] * 7, [2])
        self.assert_refused(WrongSize, question_made, ["a"] * 7, [0] * 128)
        self.assert_refused(NoWord, question_made, ["A"], [0])
        self.assert_refused(NoWord, question_made, ["A", "b"], [0, 0, 0, 2])
        self.assert_refused(Twice, question_made, ["a", "a"], [0])
        self.assert_refused(Twice, question_made, ["a", "a"], [0, 0, 0, 2])


class Answers(QuestionCase):
    def test_written_out(self):
        question = question_made(["rain", "wind"], [0, 1, 1, 0])
        self.assertEqual(answer_to(question, (0, 1)), 1)
        self.assertEqual(answer_to(question, (1, 1)), 0)
        self.assertEqual(settled_by(question, (2, 2)), None)
        self.assertEqual(settled_by(question, (1, 0)), 1)
        self.assertEqual(counted_in(question, (2, 1)), (1, 1))
        self.assertEqual(sure_of(question, (2, 2)), (1, 2))

    def test_the_answer_to_each_row(self):
        for many in COUNTS:
            for question in some_questions(many):
                for number, row in enumerate(wanted_rows(many)):
                    self.assertEqual(answer_to(question, row), question[1][number])
                    self.assertIs(type(answer_to(question, row)), int)

    def test_every_part_of_few_places(self):
        for many in FEW:
            for question in some_questions(many):
                for part in wanted_parts(many):
                    self.assert_told_of(question, part)

    def test_some_parts_of_six_places(self):
        for question in some_questions(6):
            for part in wanted_parts(6)[::7] + [(2,) * 6]:
                self.assert_told_of(question, part)

    def assert_told_of(self, question, part):
        told = [answer for row, answer in answers_by_row(question).items() if fits(row, part)]
        yes = sum(told)
        counted = counted_in(question, part)
        self.assertEqual(counted, (len(told) - yes, yes))
        self.assertEqual([type(counted), type(counted[0]), type(counted[1])], [tuple, int, int])
        common = math.gcd(yes, len(told))
        sure = sure_of(question, part)
        self.assertEqual(sure, (yes // common, len(told) // common))
        self.assertEqual([type(sure), type(sure[0]), type(sure[1])], [tuple, int, int])
        settled = settled_by(question, part)
        self.assertEqual(settled, told[0] if len(set(told)) == 1 else None)
        self.assertIs(type(settled), int if len(set(told)) == 1 else type(None))

    def test_sure_of_nought_and_one(self):
        for many in COUNTS:
            for answer in (0, 1):
                question = question_made(NAMES[:many], [answer] * 2 ** many)
                for part in ((2,) * many, (0,) * many, (1,) + (2,) * (many - 1)):
                    self.assertEqual(sure_of(question, part), (answer, 1))
                    self.assertEqual(settled_by(question, part), answer)


class Apart(QuestionCase):
    def test_every_two_of_two_places(self):
        for one in some_questions(2):
            for other in some_questions(2):
                self.assert_first_apart(one, other)

    def test_each_row_by_itself(self):
        for many in COUNTS:
            for question in some_questions(many):
                for number in range(2 ** many):
                    answers = list(question[1])
                    answers[number] = 1 - answers[number]
                    other = question_made(question[0], answers)
                    self.assertEqual(row_apart(question, other), wanted_rows(many)[number])
                    self.assert_first_apart(question, other)

    def assert_first_apart(self, one, other):
        apart = [row for row in wanted_rows(len(one[0])) if answers_by_row(one)[row] != answers_by_row(other)[row]]
        wanted = apart[0] if apart else None
        self.assertEqual(row_apart(one, other), wanted)
        self.assertEqual(row_apart(other, one), wanted)
        self.assertIs(type(row_apart(one, other)), tuple if apart else type(None))

    def test_none_for_equal_questions(self):
        for many in COUNTS:
            for question in some_questions(many):
                again = question_made(list(question[0]), list(question[1]))
                self.assertIsNone(row_apart(question, question))
                self.assertIsNone(row_apart(question, again))

    def test_unlike(self):
        question = question_made(["rain", "wind"], [0, 1, 1, 0])
        for places in (["rain", "sun"], ["wind", "rain"], ["rain"], ["wind"], ["rain", "wind", "sun"]):
            for answer in (0, 1):
                other = question_made(places, [answer] * 2 ** len(places))
                self.assert_refused(Unlike, row_apart, question, other)
                self.assert_refused(Unlike, row_apart, other, question)
        self.assert_refused(Unlike, row_apart, question, question_made(["wind", "rain"], [0, 1, 1, 0]))


class Changed(QuestionCase):
    def test_denied(self):
        self.assert_question(denied(question_made(["a", "b"], [0, 1, 1, 1])), ["a", "b"], [1, 0, 0, 0])
        for many in COUNTS:
            for question in some_questions(many):
                self.assert_question(denied(question), question[0], [1 - answer for answer in question[1]])
                self.assertEqual(denied(denied(question)), question)

    def test_turned_about_written_out(self):
        question = question_made(["rain", "wind"], [0, 0, 0, 1])
        self.assert_question(turned_about(question, "rain"), ["rain", "wind"], [0, 1, 0, 0])
        self.assert_question(turned_about(question, "wind"), ["rain", "wind"], [0, 0, 1, 0])

    def test_turned_about_at_every_place(self):
        for many in COUNTS:
            for question in some_questions(many):
                for spot, place in enumerate(question[0]):
                    self.assert_turned(question, spot, turned_about(question, place))
                    self.assertEqual(turned_about(turned_about(question, place), place), question)

    def assert_turned(self, question, spot, turned):
        wanted = []
        for row in wanted_rows(len(question[0])):
            other = list(row)
            other[spot] = 1 - other[spot]
            wanted.append(answers_by_row(question)[tuple(other)])
        self.assert_question(turned, question[0], wanted)

    def test_turned_about_at_a_strange_place(self):
        question = question_made(["rain", "wind"], [0, 0, 0, 1])
        for place in ("sun", "rai", "rainy", "in", "a", "Rain", "", " "):
            self.assert_refused(NoPlace, turned_about, question, place)


class Ordered(QuestionCase):
    def test_written_out(self):
        question = question_made(["a", "b", "c"], [0, 0, 0, 0, 1, 1, 0, 1])
        self.assert_question(put_in_order(question, ["c", "a", "b"]), ["c", "a", "b"], [0, 0, 1, 0, 0, 0, 1, 1])

    def test_every_order_of_few_places(self):
        for many in FEW:
            for question in some_questions(many):
                for order in itertools.permutations(question[0]):
                    self.assert_ordered(question, list(order))
                    self.assert_ordered(question, order)

    def test_some_orders_of_six_places(self):
        for question in some_questions(6):
            for order in list(itertools.permutations(question[0]))[::71]:
                self.assert_ordered(question, list(order))

    def assert_ordered(self, question, order):
        told = put_in_order(question, order)
        wanted = []
        for row in wanted_rows(len(order)):
            numbers = dict(zip(order, row))
            wanted.append(answers_by_row(question)[tuple(numbers[place] for place in question[0])])
        self.assert_question(told, order, wanted)
        self.assertEqual(put_in_order(told, list(question[0])), question)

    def test_the_list_stays_and_may_be_changed(self):
        order = ["b", "a"]
        told = put_in_order(question_made(["a", "b"], [0, 0, 1, 0]), order)
        self.assertEqual(order, ["b", "a"])
        order.clear()
        self.assert_question(told, ["b", "a"], [0, 1, 0, 0])

    def test_wrong_orders(self):
        question = question_made(["a", "b", "c"], [0, 0, 0, 0, 1, 1, 0, 1])
        for order in WRONG_ORDERS:
            self.assert_refused(NoPlace, put_in_order, question, order)
            self.assert_refused(NoPlace, put_in_order, question, tuple(order))


if __name__ == "__main__":
    unittest.main()
