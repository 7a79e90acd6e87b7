"""What stands ahead of the promises, and the interface: a line of calls, and its answers as they stand."""

import unittest

from primering.differences import answers
from tests.helper import ARGUMENT_COUNTS, GREATEST, NAMES, ask, last, line

ALL_BUT_BEGIN = [name + " 1" * ARGUMENT_COUNTS[name] for name in NAMES if name != "begin"]
LONG_LINE = "begin 13, put 3, put 0, move 4, times 2, take 8, grow, kept, leads 0 1, of 2, common 0 1, begin 9, put 99"


class BeforeABegin(unittest.TestCase):
    def test_each_call_alone(self):
        for call in ALL_BUT_BEGIN:
            with self.subTest(call=call):
                self.assertEqual(ask(call), [[-11]])

    def test_each_call_behind_a_refused_begin(self):
        for refused in (0, 1, 2, 9, 200, 211, GREATEST):
            for call in ALL_BUT_BEGIN:
                with self.subTest(refused=refused, call=call):
                    self.assertEqual(ask(f"begin {refused}, {call}"), [[-22], [-11]])

    def test_it_comes_ahead_of_each_other_refusal(self):
        for call in (f"put {GREATEST}", f"take {GREATEST}", "times 0", "leads 1 1", f"of {GREATEST}", "common 0 0"):
            self.assertEqual(ask(call), [[-11]])

    def test_each_call_is_stepped_over_whole(self):
        for call in ALL_BUT_BEGIN:
            with self.subTest(call=call):
                self.assertEqual(ask(f"{call}, begin 5, kept"), [[-11], [0], [0]])

    def test_all_one_behind_another_and_then_a_begin(self):
        rows = ask(", ".join(ALL_BUT_BEGIN + ["begin 5", "kept"]))
        self.assertEqual(rows, [[-11]] * len(ALL_BUT_BEGIN) + [[0], [0]])


class BeginAgain(unittest.TestCase):
    def test_none_is_kept_then(self):
        self.assertEqual(ask("begin 7, put 6, put 1, begin 7, kept")[3:], [[0], [0]])

    def test_the_new_prime_holds(self):
        rows = ask("begin 7, put 6, of 0, begin 5, put 6, put 4, of 0, move 1, begin 11, of 0, put 6")
        self.assertEqual(
            rows, [[0], [1], [3, 1, 2, 4], [0], [-2], [1], [2, 1, 4], [1, 0], [0], [5, 1, 3, 4, 5, 9], [1]]
        )

    def test_a_refused_one_changes_nothing(self):
        for refused in (0, 1, 2, 9, 200, 211, GREATEST):
            rows = ask(f"begin 7, put 6, put 1, begin {refused}, kept, of 0, put 7, put 5")
            self.assertEqual(rows[3:], [[-22], [2, 6, 1], [3, 1, 2, 4], [-2], [3]])


class RefusalsChangeNothing(unittest.TestCase):
    def test_one_behind_another(self):
        refused = "put 7, put 3, take 5, take 9, times 7, grow, leads 0 0, leads 7 7, of 7, common 2 2, common 0 7"
        rows = ask(f"begin 7, put 3, put 0, put 6, put 1, kept, {refused}, kept, of 3")
        self.assertEqual(
            rows[5:],
            [[4, 3, 0, 6, 1]]
            + [[-2], [-17], [-2], [-2], [-22], [-33], [-22], [-2], [-2], [-22], [-2]]
            + [[4, 3, 0, 6, 1], [3, 0, 4, 5]],
        )


class HowItStands(unittest.TestCase):
    def test_the_count_then_the_numbers(self):
        calls_and_answers = [
            ([3], [1, -11]),
            ([0, 9], [1, -22]),
            ([0, 7], [1, 0]),
            ([3], [1, 0]),
            ([1, 5], [1, 1]),
            ([1, 2], [1, 2]),
            ([1, 2], [1, -17]),
            ([3], [3, 2, 5, 2]),
            ([4, 3], [3, 2, 1, 5]),
            ([5, 2], [3, 2, 2, 3]),
            ([2, 2], [1, 1]),
            ([6], [1, 1]),
            ([7, 0, 1], [1, 1]),
            ([8, 0], [4, 3, 1, 2, 4]),
            ([9, 0, 1], [2, 1, 2]),
        ]
        calls = [number for call, answer in calls_and_answers for number in call]
        expected = [number for call, answer in calls_and_answers for number in answer]
        self.assertEqual(answers(calls), expected)

    def test_the_numbers_are_plain(self):
        given_back = answers(line(LONG_LINE))
        self.assertIs(type(given_back), list)
        self.assertEqual({type(number) for number in given_back}, {int})

    def test_a_line_of_sixty_calls(self):
        rows = ask("begin 199" + ", common 198 0" * 59)
        self.assertEqual(len(rows), 60)
        self.assertEqual(rows[1:], [rows[1]] * 59)
        self.assertEqual(rows[1][0], 49)

    def test_the_longest_list(self):
        calls = [9, GREATEST, GREATEST] * 60
        self.assertEqual(len(calls), 180)
        self.assertEqual(answers(calls), [1, -11] * 60)

    def test_an_argument_is_not_taken_for_a_call(self):
        self.assertEqual(ask("begin 5, put 0, put 3, leads 0 3, leads 3 0, common 0 3, of 3")[1:],
                         [[1], [2], [0], [0], [1, 4], [2, 2, 4]])


class NothingIsKept(unittest.TestCase):
    def test_what_is_handed_in_stays_as_it_was(self):
        calls = line(LONG_LINE)
        before = list(calls)
        answers(calls)
        self.assertEqual(calls, before)

    def test_what_is_handed_in_is_not_changed_for_a_while_either(self):
        class Watched(list):
            def refuse(self, *given):
                raise AssertionError("changed")

            append = extend = insert = pop = remove = clear = sort = reverse = refuse
            __setitem__ = __delitem__ = __iadd__ = __imul__ = refuse

        self.assertEqual(answers(Watched(line(LONG_LINE))), answers(line(LONG_LINE)))

    def test_each_time_is_as_the_first(self):
        first = answers(line(LONG_LINE))
        self.assertEqual(last("kept"), [-11])
        self.assertEqual(last("begin 199, kept"), [0])
        self.assertEqual(answers(line(LONG_LINE)), first)

    def test_what_is_given_back_is_the_askers_own(self):
        first = answers(line(LONG_LINE))
        as_it_was = list(first)
        second = answers(line(LONG_LINE))
        second.clear()
        self.assertEqual(first, as_it_was)
        self.assertEqual(answers(line(LONG_LINE)), as_it_was)


if __name__ == "__main__":
    unittest.main()
