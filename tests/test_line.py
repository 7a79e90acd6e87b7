"""What stands ahead of the promises, and the interface: a line of calls, and its answers as they stand."""

import contextlib
import inspect
import io
import re
import sys
import unittest

from primering import differences
from primering.differences import answers
from tests.helper import ARGUMENT_COUNTS, GREATEST, NAMES, ask, due, last, line

ALL_BUT_BEGIN = [name + " 1" * ARGUMENT_COUNTS[name] for name in NAMES if name != "begin"]
LONG_LINE = (
    "begin 13, put 3, put 0, move 4, times 2, take 8, grow, kept, leads 0 1, of 2, common 0 1, begin 9, put 99, "
    "into 0 1, rounds 3, differ 20, who, inner, group, greatest, steps 0 2, told, begin 7, put 2, greatest, who"
)
# All 19 calls, each with something to answer and, where it has one, with something to refuse; begins come again.
MIXED_LINE = (
    "told, greatest, begin 9, who, "
    "begin 5, put 3, put 0, put 3, put 5, kept, move 5, times 4, times 10, grow, inner, group, who, "
    "leads 0 4, leads 2 2, of 4, common 0 2, into 0 2, rounds 0, differ 8, differ 5, greatest, steps 0 2, told, "
    "begin 197, begin 198, put 150, grow, grow, take 150, take 150, kept, move 196, inner, group, who, greatest, "
    "leads 196 0, of 196, common 196 0, into 5 5, rounds 196, differ 4294967295, steps 196 2, told, "
    "begin 199, put 198, put 0, inner, group, who, greatest, rounds 198, into 0 198, steps 198 199, told"
)


class Draw:
    """Numbers that come by a plain rule, the same each time."""

    def __init__(self, seed):
        self.state = seed

    def below(self, end):
        self.state = (self.state * 1103515245 + 12345) % 2147483648
        return self.state // 65536 % end

    def one_of(self, choices):
        return choices[self.below(len(choices))]

    def argument(self, prime):
        if self.below(5):
            return self.below(prime)
        return self.one_of((0, prime - 1, prime, prime + 1, self.below(32768) * 131072, GREATEST))


def drawn_line(seed):
    """Sixty calls: points near and far, primes small and great, begins that are rare and sometimes refused."""
    draw = Draw(seed)
    prime = draw.one_of((3, 5, 7, 13, 17, 29, 101, 197, 199))
    calls = []
    for at in range(60):
        name = draw.one_of(NAMES + ["put"] * 8)
        given = [draw.argument(prime) for argument in range(ARGUMENT_COUNTS[name])]
        if at == 2 or name == "begin" and draw.below(2):
            name = "begin"
            prime = draw.one_of((3, 5, 7, 13, 17, 29, 101, 197, 199))
            given = [prime]
        calls.append(" ".join([name] + [str(number) for number in given]))
    return ", ".join(calls)


class BeforeABegin(unittest.TestCase):
    def test_each_call_alone(self):
        for call in ALL_BUT_BEGIN:
            with self.subTest(call=call):
                self.assertEqual(ask(call), [[-11]])

    def test_each_call_behind_a_refused_begin(self):
        for refused in (0, 1, 2, 9, 200, 211, GREATEST):
            for call in ALL_BUT_BEGIN:
                with self.subTest(refused=refused, call=call):
                    self.assertEqual(ask(f"begin {refused}, {call}"), [[-22], [-11]])

    def test_it_comes_ahead_of_each_other_refusal(self):
        refused = (
            f"put {GREATEST}, take {GREATEST}, times 0, leads 1 1, of {GREATEST}, common 0 0, "
            f"into 3 3, into 0 {GREATEST}, rounds {GREATEST}, differ 0, greatest, steps {GREATEST} 0"
        )
        for call in refused.split(", "):
            self.assertEqual(ask(call), [[-11]])
        self.assertEqual(ask(refused), [[-11]] * 12)

    def test_each_call_is_stepped_over_whole(self):
        for call in ALL_BUT_BEGIN:
            with self.subTest(call=call):
                self.assertEqual(ask(f"{call}, begin 5, kept"), [[-11], [0], [0]])

    def test_all_one_behind_another_and_then_a_begin(self):
        rows = ask(", ".join(ALL_BUT_BEGIN + ["begin 5", "kept"]))
        self.assertEqual(rows, [[-11]] * len(ALL_BUT_BEGIN) + [[0], [0]])


class BeginAgain(unittest.TestCase):
    def test_none_is_kept_then(self):
        self.assertEqual(ask("begin 7, put 6, put 1, begin 7, kept")[3:], [[0], [0]])

    def test_the_new_prime_holds(self):
        rows = ask("begin 7, put 6, of 0, begin 5, put 6, put 4, of 0, move 1, begin 11, of 0, put 6")
        self.assertEqual(
            rows, [[0], [1], [3, 1, 2, 4], [0], [-2], [1], [2, 1, 4], [1, 0], [0], [5, 1, 3, 4, 5, 9], [1]]
        )

    def test_a_refused_one_changes_nothing(self):
        for refused in (0, 1, 2, 9, 200, 211, GREATEST):
            rows = ask(f"begin 7, put 6, put 1, begin {refused}, kept, of 0, put 7, put 5")
            self.assertEqual(rows[3:], [[-22], [2, 6, 1], [3, 1, 2, 4], [-2], [3]])


class RefusalsChangeNothing(unittest.TestCase):
    def test_one_behind_another(self):
        refused = "put 7, put 3, take 5, take 9, times 7, grow, leads 0 0, leads 7 7, of 7, common 2 2, common 0 7"
        rows = ask(f"begin 7, put 3, put 0, put 6, put 1, kept, {refused}, kept, of 3")
        self.assertEqual(
            rows[5:],
            [[4, 3, 0, 6, 1]]
            + [[-2], [-17], [-2], [-2], [-22], [-33], [-22], [-2], [-2], [-22], [-2]]
            + [[4, 3, 0, 6, 1], [3, 0, 4, 5]],
        )

    def test_of_the_asking_calls(self):
        refused = "into 2 2, into 0 7, rounds 7, differ 0, differ 14, greatest, steps 7 7, steps 0 9"
        rows = ask(f"begin 7, put 3, put 0, {refused}, kept, told, who")
        self.assertEqual(
            rows[3:], [[-22], [-2], [-2], [-22], [-22], [-33], [-2], [-2], [2, 3, 0], [7, 3], [1, 6]]
        )


class HowItStands(unittest.TestCase):
    def test_the_count_then_the_numbers(self):
        calls_and_answers = [
            ([3], [1, -11]),
            ([0, 9], [1, -22]),
            ([0, 7], [1, 0]),
            ([3], [1, 0]),
            ([1, 5], [1, 1]),
            ([1, 2], [1, 2]),
            ([1, 2], [1, -17]),
            ([3], [3, 2, 5, 2]),
            ([4, 3], [3, 2, 1, 5]),
            ([5, 2], [3, 2, 2, 3]),
            ([2, 2], [1, 1]),
            ([6], [1, 1]),
            ([7, 0, 1], [1, 1]),
            ([8, 0], [4, 3, 1, 2, 4]),
            ([9, 0, 1], [2, 1, 2]),
            ([10, 0, 1], [2, 1, 6]),
            ([10, 1, 1], [1, -22]),
            ([11, 0], [1, 6]),
            ([12, 3], [1, 1]),
            ([13], [2, 1, 6]),
            ([14], [1, 1]),
            ([15], [1, 0]),
            ([16], [1, -33]),
            ([17, 0, 3], [1, 2]),
            ([18], [2, 7, 3]),
            ([0, 13], [1, 0]),
            ([16], [4, 3, 0, 1, 4]),
            ([18], [2, 13, 1]),
            ([13], [14, 13] + list(range(13))),
        ]
        calls = [number for call, answer in calls_and_answers for number in call]
        expected = [number for call, answer in calls_and_answers for number in answer]
        self.assertEqual(answers(calls), expected)

    def test_the_numbers_are_plain(self):
        given_back = answers(line(LONG_LINE))
        self.assertIs(type(given_back), list)
        self.assertEqual({type(number) for number in given_back}, {int})

    def test_a_line_of_sixty_calls(self):
        rows = ask("begin 199" + ", common 198 0" * 59)
        self.assertEqual(len(rows), 60)
        self.assertEqual(rows[1:], [rows[1]] * 59)
        self.assertEqual(rows[1][0], 49)

    def test_the_longest_list(self):
        calls = [9, GREATEST, GREATEST] * 60
        self.assertEqual(len(calls), 180)
        self.assertEqual(answers(calls), [1, -11] * 60)
        calls = [7, 1, 2, 9, 3, 4, 10, 5, 5, 17, 0, GREATEST] * 15
        self.assertEqual(len(calls), 180)
        self.assertEqual(answers(calls), [1, -11] * 60)

    def test_the_longest_list_behind_a_begin(self):
        text = "begin 199" + ", into 198 0, steps 198 0, common 198 0, leads 198 0" * 14 + ", steps 1 0" * 3
        self.assertEqual(len(line(text)), 179)
        self.assertEqual(ask(text), due(text))

    def test_many_times_greatest_by_the_greatest_prime_that_leaves_one(self):
        expected = [8, 0, 1, 7, 54, 60, 61, 97, 161]
        self.assertEqual(ask("begin 197" + ", greatest" * 59), [[0]] + [expected] * 59)
        rows = ask(", ".join(["begin 197, greatest, begin 193, greatest, put 5, greatest"] * 10))
        self.assertEqual(len(rows), 60)
        self.assertEqual(rows[1::6], [expected] * 10)
        self.assertEqual(rows[3::6], [[7, 0, 1, 2, 3, 86, 98, 110]] * 10)
        self.assertEqual(rows[5::6], rows[3::6])

    def test_many_times_what_goes_over_all_points(self):
        for prime in (197, 199):
            text = f"begin {prime}" + ", rounds 0, steps 1 0, who, differ 2" * 14
            self.assertEqual(ask(text), due(text))

    def test_an_argument_is_not_taken_for_a_call(self):
        self.assertEqual(ask("begin 5, put 0, put 3, leads 0 3, leads 3 0, common 0 3, of 3")[1:],
                         [[1], [2], [0], [0], [1, 4], [2, 2, 4]])


class AllCallsMixed(unittest.TestCase):
    def test_sixty_calls_by_small_primes_and_great_ones(self):
        calls = MIXED_LINE.split(", ")
        self.assertEqual(len(calls), 60)
        self.assertEqual({call.split()[0] for call in calls}, set(NAMES))
        self.assertEqual(ask(MIXED_LINE), due(MIXED_LINE))

    def test_its_answers_by_a_small_prime_worked_by_hand(self):
        self.assertEqual(
            ask(MIXED_LINE)[:28],
            [[-11], [-11], [-22], [-11]]
            + [[0], [1], [2], [-17], [-2], [2, 3, 0], [2, 3, 0], [2, 2, 0], [-22], [1], [2], [0], [0]]
            + [[1], [-22], [2, 0, 3], [1, 1], [1, 1], [0], [1], [-22], [2, 0, 1], [2], [5, 1]],
        )

    def test_lines_drawn_by_a_rule(self):
        named = set()
        for seed in range(120):
            text = drawn_line(seed)
            calls = text.split(", ")
            self.assertEqual(len(calls), 60)
            named.update(call.split()[0] for call in calls)
            with self.subTest(seed=seed):
                self.assertEqual(ask(text), due(text))
        self.assertEqual(named, set(NAMES))


class NothingIsKept(unittest.TestCase):
    watching = False

    def test_what_is_handed_in_stays_as_it_was(self):
        calls = line(LONG_LINE)
        before = list(calls)
        answers(calls)
        self.assertEqual(calls, before)

    def test_what_is_handed_in_is_not_changed_for_a_while_either(self):
        class Watched(list):
            def refuse(self, *given):
                raise AssertionError("changed")

            append = extend = insert = pop = remove = clear = sort = reverse = refuse
            __setitem__ = __delitem__ = __iadd__ = __imul__ = refuse

        self.assertEqual(answers(Watched(line(LONG_LINE))), answers(line(LONG_LINE)))

    def test_two_times_one_behind_the_other_do_not_touch_each_other(self):
        alone = answers(line("begin 13, put 3, greatest, who, told"))
        answers(line(MIXED_LINE))
        self.assertEqual(answers(line("begin 13, put 3, greatest, who, told")), alone)
        self.assertEqual(ask("who, told, greatest"), [[-11]] * 3)

    def test_nothing_is_printed(self):
        out, err = io.StringIO(), io.StringIO()
        with contextlib.redirect_stdout(out), contextlib.redirect_stderr(err):
            answers(line(MIXED_LINE))
        self.assertEqual((out.getvalue(), err.getvalue()), ("", ""))

    def test_nothing_is_imported_or_read(self):
        found = set()
        sys.addaudithook(lambda event, given: found.add(event) if self.watching else None)
        self.watching = True
        answers(line(MIXED_LINE))
        self.watching = False
        self.assertEqual(found & {"import", "open", "exec", "compile"}, set())
        self.assertEqual(set(re.findall(r"^\s*(?:from|import)\b", inspect.getsource(differences), re.MULTILINE)), set())

    def test_calls_are_not_deep_within_one_another(self):
        depth = 0
        frame = sys._getframe()
        while frame is not None:
            depth += 1
            frame = frame.f_back
        before = sys.getrecursionlimit()
        expected = answers(line(MIXED_LINE))
        sys.setrecursionlimit(depth + 40)
        try:
            self.assertEqual(answers(line(MIXED_LINE)), expected)
        finally:
            sys.setrecursionlimit(before)

    def test_each_time_is_as_the_first(self):
        first = answers(line(LONG_LINE))
        self.assertEqual(last("kept"), [-11])
        self.assertEqual(last("begin 199, kept"), [0])
        self.assertEqual(answers(line(LONG_LINE)), first)

    def test_what_is_given_back_is_the_askers_own(self):
        first = answers(line(LONG_LINE))
        as_it_was = list(first)
        second = answers(line(LONG_LINE))
        second.clear()
        self.assertEqual(first, as_it_was)
        self.assertEqual(answers(line(LONG_LINE)), as_it_was)


if __name__ == "__main__":
    unittest.main()
