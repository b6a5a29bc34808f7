import unittest

from leastasks import trimming
from leastasks.plans import plan_read, plan_shown
from leastasks.questions import question_made
from leastasks.texts import question_read
from leastasks.trimming import row_mistold, trimmed
from wanted import NO, YES, Case, every_plan, every_question, wanted_rows, way_of


def is_some_of(few, many):
    left = iter(many)
    return all(place in left for place in few)


def trimmed_by_rows(question, plan, rows):
    # The rows that come to a plan, as dicts of places, stand here for what was asked ahead.
    answers = {question[1][int("".join(str(row[place]) for place in question[0]), 2)] for row in rows}
    if len(answers) == 1:
        return ("tell", answers.pop())
    if plan[0] == "tell":
        return plan
    if_no = trimmed_by_rows(question, plan[2], [row for row in rows if row[plan[1]] == 0])
    if_yes = trimmed_by_rows(question, plan[3], [row for row in rows if row[plan[1]] == 1])
    return if_no if if_no == if_yes else ("ask", plan[1], if_no, if_yes)


def numbers_by_place(question):
    return [dict(zip(question[0], row)) for row in wanted_rows(len(question[0]))]


class Interface(Case):
    def test_the_arguments_are_called_as_told(self):
        self.assert_arguments(trimming, {"row_mistold": "(question, plan)", "trimmed": "(question, plan)"})


class Mistold(Case):
    def test_written_out(self):
        both = question_made(["rain", "wind"], [0, 0, 0, 1])
        either = question_made(["rain", "wind"], [0, 1, 1, 1])
        plan = ("ask", "rain", NO, ("ask", "wind", NO, YES))
        self.assertIsNone(row_mistold(both, plan))
        self.assertEqual(row_mistold(either, plan), (0, 1))
        self.assertEqual(row_mistold(question_made(["rain", "wind"], [0, 0, 1, 0]), plan), (1, 0))
        self.assertEqual(row_mistold(question_made(["rain", "wind"], [0, 0, 0, 0]), plan), (1, 1))
        self.assertEqual(row_mistold(either, YES), (0, 0))
        self.assertIsNone(row_mistold(question_made(["a"], [1, 1]), YES))

    def test_every_plan_for_every_question(self):
        for places in (["a"], ["a", "b"], ["b", "a"]):
            for plan in every_plan(["a", "b"][:len(places)]):
                for question in every_question(places):
                    self.assert_first_mistold(question, plan)

    def test_some_plans_of_three_places(self):
        for plan in every_plan(["a", "b", "c"])[::211]:
            for question in every_question(["c", "a", "b"])[::5]:
                self.assert_first_mistold(question, plan)

    def assert_first_mistold(self, question, plan):
        rows = wanted_rows(len(question[0]))
        mistold = [
            row for row, numbers, answer in zip(rows, numbers_by_place(question), question[1])
            if way_of(plan, numbers)[0] != answer
        ]
        told = row_mistold(question, plan)
        self.assertEqual(told, mistold[0] if mistold else None)
        self.assertIs(type(told), tuple if mistold else type(None))


class Trimmed(Case):
    def assert_trimmed(self, question, text, wanted):
        told = trimmed(question, plan_read(text, list(question[0])))
        self.assertEqual(plan_shown(told), wanted)
        self.assertEqual(trimmed(question, told), told)

    def test_an_answer_where_it_is_settled(self):
        both = question_made(["a", "b"], [0, 0, 0, 1])
        self.assert_trimmed(both, "a b 0 0 b 0 1", "a 0 b 0 1")
        self.assert_trimmed(both, "b a 0 0 a 0 1", "b 0 a 0 1")
        self.assert_trimmed(both, "a 0 b 0 1", "a 0 b 0 1")
        self.assert_trimmed(question_made(["a", "b"], [1, 1, 1, 1]), "a b 1 1 b 1 1", "1")

    def test_an_answer_is_the_one_by_which_it_is_settled(self):
        both = question_made(["a", "b"], [0, 0, 0, 1])
        self.assert_trimmed(both, "a 1 b 0 1", "a 0 b 0 1")
        self.assert_trimmed(both, "a b 0 1 b 1 0", "a 0 b 0 1")
        self.assert_trimmed(question_made(["a", "b"], [0, 0, 0, 0]), "1", "0")
        self.assert_trimmed(question_made(["a", "b"], [1, 1, 1, 1]), "a b 0 1 0", "1")

    def test_an_answer_told_too_early_stays(self):
        odd = question_made(["a", "b"], [0, 1, 1, 0])
        self.assert_trimmed(odd, "0", "0")
        self.assert_trimmed(odd, "1", "1")
        self.assert_trimmed(odd, "a 0 b 1 0", "a 0 b 1 0")
        self.assert_trimmed(odd, "a 0 1", "a 0 1")

    def test_an_ask_whose_two_plans_are_equal_is_left_out(self):
        last = question_read("c", ["a", "b", "c"])
        self.assert_trimmed(last, "a c 0 1 c 0 1", "c 0 1")
        self.assert_trimmed(last, "c a 0 0 1", "c 0 1")
        odd = question_made(["a", "b"], [0, 1, 1, 0])
        self.assert_trimmed(odd, "a 1 1", "1")
        self.assert_trimmed(odd, "a b 0 1 b 1 0", "a b 0 1 b 1 0")

    def test_asks_that_become_equal_when_trimmed(self):
        last = question_read("c", ["a", "b", "c"])
        self.assert_trimmed(last, "a c 0 1 c b 0 0 1", "c 0 1")
        self.assert_trimmed(last, "a c b 0 0 b 1 1 b c 0 1 c 0 1", "c 0 1")

    def test_several_times_from_the_end_on(self):
        last = question_read("d", ["a", "b", "c", "d"])
        text = "d 0 1"
        for place in ("c", "b", "a"):
            text = f"{place} {text} {text}"
        self.assert_trimmed(last, text, "d 0 1")
        mixed = question_read("( all a d )", ["a", "b", "c", "d"])
        self.assert_trimmed(mixed, "a b c 0 0 0 b c d 0 1 d 0 1 c d 0 1 d 0 1", "a 0 d 0 1")

    def test_six_places(self):
        places = ["a", "b", "c", "d", "e", "f"]
        whole = "0"
        odd = ["0", "1"]
        for place in reversed(places):
            whole = f"{place} {whole} {whole}"
            odd = [f"{place} {odd[0]} {odd[1]}", f"{place} {odd[1]} {odd[0]}"]
        self.assert_trimmed(question_read("f", places), whole, "f 0 1")
        self.assert_trimmed(question_read("( any a f )", places), whole, "a f 0 1 1")
        self.assert_trimmed(question_read("( odd a b c d e f )", places), whole, odd[0])
        self.assert_trimmed(question_read("( odd a b c d e f )", places), odd[0], odd[0])

    def test_every_plan_for_every_question(self):
        for places in (["a"], ["a", "b"], ["b", "a"]):
            for plan in every_plan(["a", "b"][:len(places)]):
                for question in every_question(places):
                    self.assert_promises(question, plan)

    def test_some_plans_of_three_places(self):
        for plan in every_plan(["a", "b", "c"])[::211]:
            for question in every_question(["c", "a", "b"])[::5]:
                self.assert_promises(question, plan)

    def assert_promises(self, question, plan):
        told = trimmed(question, plan)
        self.assertEqual(told, trimmed_by_rows(question, plan, numbers_by_place(question)))
        self.assertEqual(trimmed(question, told), told)
        self.assertIs(type(told), tuple)
        if row_mistold(question, plan) is None:
            self.assertIsNone(row_mistold(question, told))
        for numbers in numbers_by_place(question):
            self.assertTrue(is_some_of(way_of(told, numbers)[1], way_of(plan, numbers)[1]))

    def test_what_is_handed_in_stays(self):
        question = question_made(["a", "b"], [0, 0, 0, 1])
        plan = ("ask", "a", ("ask", "b", NO, NO), ("ask", "b", NO, YES))
        trimmed(question, plan)
        row_mistold(question, plan)
        self.assertEqual(question, (("a", "b"), (0, 0, 0, 1)))
        self.assertEqual(plan, ("ask", "a", ("ask", "b", NO, NO), ("ask", "b", NO, YES)))


if __name__ == "__main__":
    unittest.main()
