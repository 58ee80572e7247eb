"""What holds of all calls alike: their refusals, what is handed in, and that nothing is kept."""

import contextlib
import io
import unittest

from asking import BIRDS, CALLS, CALLS_WITH_MAY, LARGE, bytes_of
from rulechange import desk

NUMBERS = {"with_of": 2, "least": 1, "bares": 1, "needed": 2}


class RefusalsTest(unittest.TestCase):
    GOOD = bytes_of(BIRDS)
    BAD = bytes_of(BIRDS + "x\n")
    # Each of what may be wrong by itself, then several at once.
    WRONG = (
        (4, 0, 0, 0),
        (0, 0, 10, 0),
        (0, 0, 0, 4),
        (4, 0, 10, 0),
        (LARGE, 0, LARGE, LARGE),
    )
    WRONG_MAY = ((0, 4, 0, 0), (4, 4, 0, 0), (0, 8, 10, 4), (LARGE, LARGE, LARGE, LARGE))
    RIGHT = ((0, 0, 0, 0), (3, 3, 9, 2), (1, 2, 6, 0))

    def all_answer(self, calls, asked, t, answer):
        for name, call in calls.items():
            self.assertEqual(call(*asked, t), answer, (name, asked))

    def test_what_is_in_order_is_not_refused(self):
        for name, call in CALLS.items():
            for asked in self.RIGHT:
                self.assertEqual(call(*asked, self.GOOD)[0], 0, (name, asked))

    def test_a_set_with_a_bit_that_is_no_rule_s(self):
        law = bytes_of("law l: -> p\n")
        for w in (4, 5, 7, 8, 1 << 10, 1 << 31, LARGE, LARGE - 3):
            self.all_answer(CALLS, (w, 0, 0, 0), self.GOOD, [-1])
            self.all_answer(CALLS, (w, 3, 0, 0), self.GOOD, [-1])
            self.all_answer(CALLS_WITH_MAY, (0, w, 0, 0), self.GOOD, [-1])
            self.all_answer(CALLS_WITH_MAY, (3, w, 0, 0), self.GOOD, [-1])
        for w in (1, 2, LARGE):
            self.all_answer(CALLS, (w, 0, 0, 0), law, [-1])
            self.all_answer(CALLS_WITH_MAY, (0, w, 0, 0), law, [-1])

    def test_the_last_rule_s_bit_and_the_next(self):
        for count in range(1, 11):
            t = bytes_of("".join(f"rule r{k}: => p{k}\n" for k in range(count)))
            every = 2**count - 1
            for name, call in CALLS.items():
                self.assertEqual(call(every, every, 0, 0, t)[0], 0, (name, count))
            self.all_answer(CALLS, (every + 1, every, 0, 0), t, [-1])
            self.all_answer(CALLS_WITH_MAY, (every, every + 1, 0, 0), t, [-1])

    def test_a_literal_s_number_that_there_is_not(self):
        for name, call in CALLS.items():
            self.assertEqual(call(3, 3, 9, 1, self.GOOD)[0], 0, name)
        for literal in (10, 11, 128, LARGE):
            self.all_answer(CALLS, (3, 3, literal, 0), self.GOOD, [-1])
            self.all_answer(CALLS, (0, 0, literal, 1), self.GOOD, [-1])

    def test_what_above_3(self):
        for name, call in CALLS.items():
            self.assertEqual(call(0, 0, 6, 3, self.GOOD)[0], 0, name)
        for what in (4, 5, 7, LARGE):
            self.all_answer(CALLS, (3, 3, 0, what), self.GOOD, [-1])

    def test_the_empty_text_has_no_rule_and_no_literal(self):
        for asked in ((0, 0, 0, 0), (0, 0, 0, 1), (0, 0, 1, 3), (1, 0, 0, 0), (0, 1, 0, 0)):
            self.all_answer(CALLS, asked, [], [-1])

    def test_no_case_s_text_comes_before_what_is_asked_of_it(self):
        for asked in self.RIGHT + self.WRONG + self.WRONG_MAY + ((0, 0, 0, 1),):
            self.all_answer(CALLS, asked, self.BAD, [-6])

    def test_too_many_bytes_come_first(self):
        for filling in (10, 32, 97):
            for asked in self.RIGHT + self.WRONG + self.WRONG_MAY + ((0, 0, 0, 1),):
                self.all_answer(CALLS, asked, self.GOOD + [filling] * (8193 - len(self.GOOD)), [-1])
                self.all_answer(CALLS, asked, self.GOOD + [filling] * (8192 - len(self.GOOD)), [-6])

    def test_wrong_things_asked_come_before_that_no_change_does(self):
        for what in (0, 1):
            for w, may, literal, asked_what in self.WRONG:
                self.all_answer(CALLS, (w, may, literal, asked_what or what), self.GOOD, [-1])
            for w, may, literal, asked_what in self.WRONG_MAY:
                self.all_answer(CALLS_WITH_MAY, (w, may, literal, asked_what or what), self.GOOD, [-1])

    def test_that_no_change_does_is_refused_by_those_that_need_one(self):
        # Literal 0, bird, stands whatever changes.
        for w in range(4):
            for may in range(4):
                for name, call in CALLS.items():
                    told = call(w, may, 0, 1, self.GOOD)[0]
                    self.assertEqual(told, -3 if name in ("least", "needed") else 0, name)

    def test_start_and_most_are_never_refused_and_change_no_refusal(self):
        for start in (0, 1, LARGE):
            for most in (0, 1, LARGE):
                for asked in self.RIGHT:
                    self.assertEqual(desk.bare(*asked, start, most, self.GOOD)[0], 0)
                for asked in self.WRONG + self.WRONG_MAY:
                    self.assertEqual(desk.bare(*asked, start, most, self.GOOD), [-1])
                    self.assertEqual(desk.bare(*asked, start, most, self.BAD), [-6])
                self.assertEqual(desk.bare(0, 0, 0, 0, start, most, self.BAD), [-6])
                self.assertEqual(desk.bare(0, 0, 0, 0, start, most, [10] * 8193), [-1])

    def test_bytes_that_are_no_signs(self):
        for byte in (0, 127, 128, 255):
            self.all_answer(CALLS, (0, 0, 0, 0), [byte], [-6])
            self.all_answer(CALLS, (0, 0, 0, 0), [byte, 10], [-6])


class HandedInTest(unittest.TestCase):
    ROWS = (
        (3, 3, 6, 0, bytes_of(BIRDS)),
        (1, 2, 6, 0, bytes_of(BIRDS)),
        (3, 3, 0, 1, bytes_of(BIRDS)),
        (3, 3, 0, 1, bytes_of("rule a: => p\nrule b: => ~p\n")),
        (3, 1, 4, 0, bytes_of("rule a: => p\nrule b: => ~p\n")),
        (3, 3, 0, 1, bytes_of("rule a: => p\nrule b: => ~p\nweigh a > b\n")),
        (3, 3, 0, 1, bytes_of("rule a: => p\nrule b: => ~p\nweigh b > a\n")),
        (7, 7, 6, 0, bytes_of("rule a: => p\nrule b: => ~p\nrule c: => q\n")),
        (0, 0, 0, 0, bytes_of("law l: -> p\n")),
        (0, 0, 0, 0, bytes_of("law l: -> ~p\n")),
        (0, 0, 0, 0, bytes_of("x\n")),
        (0, 0, 0, 0, []),
        (9, 9, 0, 0, bytes_of(BIRDS)),
        (0, 0, 0, 0, [10] * 8300),
    )

    def test_the_list_is_as_it_was(self):
        for name, call in CALLS.items():
            for w, may, literal, what, t in self.ROWS:
                kept = list(t)
                call(w, may, literal, what, t)
                self.assertEqual(t, kept, name)

    def test_the_list_is_not_changed_for_a_while_either(self):
        class Watched(list):
            def refuse(self, *told):
                raise AssertionError("changed")

            __setitem__ = __delitem__ = __iadd__ = __imul__ = refuse
            append = extend = insert = pop = remove = clear = sort = reverse = refuse

        for name, call in CALLS.items():
            for w, may, literal, what, t in self.ROWS:
                self.assertEqual(call(w, may, literal, what, Watched(t)), call(w, may, literal, what, t), name)

    def test_the_same_answer_each_time(self):
        rows = [(call, row) for row in self.ROWS for call in CALLS.values()]
        first = [call(*row) for call, row in rows]
        again = [call(*row) for call, row in rows]
        back = [call(*row) for call, row in rows[::-1]]
        self.assertEqual(first, again)
        self.assertEqual(first, back[::-1])

    def test_an_answer_that_is_changed_does_not_come_back(self):
        for name, call in CALLS.items():
            for row in self.ROWS:
                told = call(*row)
                kept = list(told)
                told.append(7)
                told[0] = 5
                self.assertEqual(call(*row), kept, name)

    def test_answers_are_lists_of_whole_numbers(self):
        for name, call in CALLS.items():
            for w, may, literal, what, t in self.ROWS:
                for asked in range(5):
                    answer = call(w, may, literal, asked, t)
                    self.assertIs(type(answer), list)
                    self.assertEqual({type(number) for number in answer}, {int})
                    self.assertIn(answer[0], (0, -1, -3, -6))
                    if answer[0] < 0:
                        self.assertEqual(len(answer), 1)
                    elif name in NUMBERS:
                        self.assertEqual(len(answer), 1 + NUMBERS[name], name)

    def test_nothing_is_printed(self):
        printed = io.StringIO()
        with contextlib.redirect_stdout(printed), contextlib.redirect_stderr(printed):
            for call in CALLS.values():
                for row in self.ROWS:
                    call(*row)
        self.assertEqual(printed.getvalue(), "")


class InterfaceTest(unittest.TestCase):
    ARGUMENTS = {
        "with_of": ["w", "literal", "what", "t"],
        "least": ["w", "may", "literal", "what", "t"],
        "bares": ["w", "may", "literal", "what", "t"],
        "bare": ["w", "may", "literal", "what", "start", "most", "t"],
        "needed": ["w", "may", "literal", "what", "t"],
        "tips": ["w", "literal", "what", "t"],
    }

    def test_names_and_arguments(self):
        self.assertEqual(set(self.ARGUMENTS), set(CALLS))
        for name, arguments in self.ARGUMENTS.items():
            code = getattr(desk, name).__code__
            self.assertEqual(list(code.co_varnames[: code.co_argcount]), arguments)
            self.assertIsNone(getattr(desk, name).__defaults__)

    def test_arguments_by_their_names(self):
        told = {"w": 3, "may": 3, "literal": 6, "what": 1, "start": 0, "most": LARGE, "t": bytes_of(BIRDS)}
        for name, arguments in self.ARGUMENTS.items():
            by_name = getattr(desk, name)(**{argument: told[argument] for argument in arguments})
            self.assertEqual(by_name, CALLS[name](3, 3, 6, 1, bytes_of(BIRDS)))


if __name__ == "__main__":
    unittest.main()
