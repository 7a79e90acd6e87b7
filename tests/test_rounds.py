"""Promise 2, as far as it tells of rounds, steps and differ."""

import unittest

from tests.helper import GREATEST, ask, differ_due, last, rounds_due, steps_due

LEAVING_ONE = (5, 13, 17, 29)
LEAVING_THREE = (3, 7, 11, 19, 23)
SMALL = LEAVING_ONE + LEAVING_THREE


class Rounds(unittest.TestCase):
    def test_worked_by_hand(self):
        # By 3 it's 0, 1, 2 alone. By 5 the points to which 0 leads, 1 and 4, don't lead to one another.
        self.assertEqual(ask("begin 3, rounds 0, rounds 1, rounds 2"), [[0], [1], [1], [1]])
        self.assertEqual(ask("begin 5, rounds 0, rounds 4"), [[0], [0], [0]])
        # By 7 from 0 over 1 to 3 or 5, over 2 to 3 or 6, over 4 to 5 or 6, and back.
        self.assertEqual(last("begin 7, rounds 0"), [6])
        # By 13 from 0 over 1 and 4, 1 and 10, 3 and 4, 3 and 12, 9 and 10, 9 and 12, each either way about.
        self.assertEqual(last("begin 13, rounds 0"), [6])

    def test_each_point_by_small_primes(self):
        for prime in SMALL:
            for x in range(prime):
                with self.subTest(prime=prime, x=x):
                    self.assertEqual(last(f"begin {prime}, rounds {x}"), [rounds_due(prime, x)])

    def test_y_and_z_the_other_way_about_are_the_same_where_one_leads_both_ways(self):
        for prime in (5, 13, 17, 101, 197):
            rows = ask(f"begin {prime}, rounds 0, rounds 1, rounds {prime - 1}")
            self.assertEqual(rows[1:], [[(prime - 1) * (prime - 5) // 16]] * 3)

    def test_by_primes_that_leave_three(self):
        for prime in (3, 7, 11, 103, 199):
            rows = ask(f"begin {prime}, rounds 0, rounds 1, rounds {prime - 1}")
            self.assertEqual(rows[1:], [[(prime * prime - 1) // 8]] * 3)

    def test_no_such_point(self):
        for point in (7, 8, GREATEST):
            self.assertEqual(last(f"begin 7, rounds {point}"), [-2])
        self.assertEqual(ask("begin 5, rounds 5, begin 199, rounds 199, begin 3, rounds 3")[1::2], [[-2]] * 3)


class Steps(unittest.TestCase):
    def test_worked_by_hand(self):
        self.assertEqual(
            ask("begin 3, steps 0 1, steps 0 2, steps 1 0, steps 2 0, steps 2 2")[1:], [[1], [2], [2], [1], [0]]
        )
        self.assertEqual(
            ask("begin 5, steps 0 1, steps 0 2, steps 0 3, steps 0 4, steps 3 0")[1:], [[1], [2], [2], [1], [2]]
        )
        # By 7 0 leads to 1, 2, 4.
        self.assertEqual(ask("begin 7, steps 0 4, steps 4 0, steps 0 3, steps 3 0")[1:], [[1], [2], [2], [1]])

    def test_each_pair_by_small_primes(self):
        for prime in SMALL:
            for x in range(prime):
                for y in range(prime):
                    with self.subTest(prime=prime, x=x, y=y):
                        self.assertEqual(last(f"begin {prime}, steps {x} {y}"), [steps_due(prime, x, y)])

    def test_great_primes(self):
        for prime in (197, 199):
            for y in range(prime):
                self.assertEqual(last(f"begin {prime}, steps 0 {y}"), [steps_due(prime, 0, y)])
                self.assertEqual(last(f"begin {prime}, steps {y} 1"), [steps_due(prime, y, 1)])

    def test_a_point_to_itself(self):
        for prime in (3, 5, 197, 199):
            self.assertEqual(ask(f"begin {prime}, steps 0 0, steps {prime - 1} {prime - 1}")[1:], [[0], [0]])

    def test_no_such_point(self):
        for pair in ("7 0", "0 7", "8 9", f"{GREATEST} 0", f"0 {GREATEST}"):
            self.assertEqual(last(f"begin 7, steps {pair}"), [-2])

    def test_no_such_point_to_itself(self):
        for pair in ("7 7", f"{GREATEST} {GREATEST}"):
            self.assertEqual(last(f"begin 7, steps {pair}"), [-2])


class Differ(unittest.TestCase):
    def test_worked_by_hand(self):
        # By 5 the squares leave 1, 4: 4 less 1 is 3, 1 less 4 leaves 2. By 3 they leave 1 alone.
        self.assertEqual(ask("begin 5, differ 1, differ 2, differ 3, differ 4")[1:], [[0], [1], [1], [0]])
        self.assertEqual(ask("begin 3, differ 1, differ 2")[1:], [[0], [0]])
        # By 7 they leave 1, 2, 4.
        self.assertEqual(ask("begin 7" + "".join(f", differ {d}" for d in range(1, 7)))[1:], [[1]] * 6)

    def test_each_difference_by_small_primes(self):
        for prime in SMALL:
            for d in range(1, prime):
                with self.subTest(prime=prime, d=d):
                    self.assertEqual(last(f"begin {prime}, differ {d}"), [differ_due(prime, d)])

    def test_every_difference_as_often_by_primes_that_leave_three(self):
        for prime in (3, 7, 103, 199):
            for d in range(1, prime):
                self.assertEqual(last(f"begin {prime}, differ {d}"), [(prime - 3) // 4])

    def test_by_primes_that_leave_one_it_hangs_on_whether_it_is_a_squares_remainder(self):
        for prime in (5, 13, 101, 197):
            for d in range(1, prime):
                leading, often = ask(f"begin {prime}, leads 0 {d}, differ {d}")[1:]
                self.assertEqual(often, [(prime - 5) // 4 if leading == [1] else (prime - 1) // 4])

    def test_numbers_beyond_the_prime(self):
        for prime in (5, 13, 197):
            for d in range(1, prime):
                near, further, far = ask(
                    f"begin {prime}, differ {d}, differ {d + prime}, differ {d + prime * 21000000}"
                )[1:]
                self.assertEqual([further, far], [near, near])

    def test_the_greatest_number(self):
        # It leaves 8 by 13 and 87 by 197, which no square does, 36 by 41, which a square does, and 45 by 199.
        for prime, left, often in ((13, 8, 3), (197, 87, 49), (41, 36, 9), (199, 45, 49)):
            self.assertEqual(ask(f"begin {prime}, differ {GREATEST}, differ {left}")[1:], [[often], [often]])

    def test_what_leaves_nothing_is_refused(self):
        for d in (0, 7, 14, 4294967292):
            self.assertEqual(last(f"begin 7, differ {d}"), [-22])
        for prime in (3, 5, 17):
            self.assertEqual(ask(f"begin {prime}, differ {GREATEST}, differ {prime}, differ 0")[1:], [[-22]] * 3)
        self.assertEqual(ask("begin 199, differ 199, differ 398, differ 0")[1:], [[-22]] * 3)


class KeptDoesNotMatter(unittest.TestCase):
    def test_asking_neither_heeds_nor_changes_what_is_kept(self):
        asked = "rounds 0, steps 0 3, steps 2 2, differ 3, rounds 7, steps 7 0, differ 7"
        expected = [[6], [2], [0], [1], [-2], [-2], [-22]]
        self.assertEqual(ask(f"begin 7, {asked}")[1:], expected)
        self.assertEqual(ask(f"begin 7, put 3, put 0, {asked}, kept")[3:], expected + [[2, 3, 0]])


if __name__ == "__main__":
    unittest.main()
