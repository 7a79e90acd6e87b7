"""Promise 2, as far as it tells of leads, of, common and into."""

import unittest

from tests.helper import GREATEST, ask, last

# Written out by hand from the squares of 1, 2, 3 and so on.
SQUARES = {
    3: [1],
    5: [1, 4],
    7: [1, 2, 4],
    11: [1, 3, 4, 5, 9],
    13: [1, 3, 4, 9, 10, 12],
    17: [1, 2, 4, 8, 9, 13, 15, 16],
}


def points_led_to(prime, point):
    return sorted((point + square) % prime for square in SQUARES[prime])


class Leads(unittest.TestCase):
    def test_each_pair_by_small_primes(self):
        for prime in SQUARES:
            for x in range(prime):
                for y in range(prime):
                    expected = -22 if x == y else int(y in points_led_to(prime, x))
                    with self.subTest(prime=prime, x=x, y=y):
                        self.assertEqual(ask(f"begin {prime}, leads {x} {y}"), [[0], [expected]])

    def test_back_just_where_the_prime_leaves_one_by_four(self):
        for prime in (5, 13, 197, 3, 7, 199):
            for y in range(1, prime):
                there = last(f"begin {prime}, leads 0 {y}")[0]
                back = last(f"begin {prime}, leads {y} 0")[0]
                self.assertIn(there, (0, 1))
                self.assertEqual(back, there if prime % 4 == 1 else 1 - there)

    def test_the_greatest_prime(self):
        # 14 times 14 is 196, 15 times 15 leaves 26.
        self.assertEqual(
            ask("begin 199, leads 0 196, leads 196 0, leads 0 26, leads 3 0, leads 198 0, leads 0 198")[1:],
            [[1], [0], [1], [1], [1], [0]],
        )

    def test_a_point_to_itself(self):
        for prime in (3, 5, 199):
            self.assertEqual(last(f"begin {prime}, leads 0 0"), [-22])
            self.assertEqual(last(f"begin {prime}, leads {prime - 1} {prime - 1}"), [-22])

    def test_no_such_point(self):
        for pair in ("7 0", "0 7", "8 9", f"{GREATEST} 0", f"0 {GREATEST}"):
            self.assertEqual(last(f"begin 7, leads {pair}"), [-2])

    def test_no_such_point_comes_ahead_of_itself(self):
        for pair in ("7 7", f"{GREATEST} {GREATEST}"):
            self.assertEqual(last(f"begin 7, leads {pair}"), [-2])


class Of(unittest.TestCase):
    def test_each_point_by_small_primes(self):
        for prime in SQUARES:
            for x in range(prime):
                expected = points_led_to(prime, x)
                with self.subTest(prime=prime, x=x):
                    self.assertEqual(last(f"begin {prime}, of {x}"), [len(expected)] + expected)

    def test_rising_where_it_goes_round(self):
        self.assertEqual(last("begin 7, of 5"), [3, 0, 2, 6])
        self.assertEqual(last("begin 5, of 4"), [2, 0, 3])
        self.assertEqual(last("begin 3, of 2"), [1, 0])

    def test_the_greatest_prime(self):
        expected = sorted({(198 + n * n) % 199 for n in range(1, 199)})
        self.assertEqual(len(expected), 99)
        self.assertEqual(last("begin 199, of 198"), [99] + expected)

    def test_no_such_point(self):
        for point in (7, 8, GREATEST):
            self.assertEqual(last(f"begin 7, of {point}"), [-2])
        self.assertEqual(last("begin 199, of 199"), [-2])


class Common(unittest.TestCase):
    def test_each_pair_by_small_primes(self):
        for prime in SQUARES:
            for x in range(prime):
                for y in range(prime):
                    shared = [z for z in points_led_to(prime, x) if z in points_led_to(prime, y)]
                    expected = [-22] if x == y else [len(shared)] + shared
                    with self.subTest(prime=prime, x=x, y=y):
                        self.assertEqual(last(f"begin {prime}, common {x} {y}"), expected)

    def test_worked_by_hand(self):
        # By 7: 0 leads to 1, 2, 4; 1 to 2, 3, 5. By 5: 0 leads to 1, 4; 2 to 1, 3; 1 to 0, 2.
        self.assertEqual(last("begin 7, common 0 1"), [1, 2])
        self.assertEqual(last("begin 5, common 0 2"), [1, 1])
        self.assertEqual(last("begin 5, common 0 1"), [0])
        self.assertEqual(last("begin 3, common 0 1"), [0])

    def test_as_many_for_any_two_by_a_prime_that_leaves_three(self):
        for prime in (3, 7, 103, 199):
            for y in range(1, prime):
                self.assertEqual(last(f"begin {prime}, common 0 {y}")[0], (prime - 3) // 4)

    def test_it_hangs_on_leading_by_a_prime_that_leaves_one(self):
        for prime in (5, 13, 101, 197):
            for y in range(1, prime):
                leading, shared = ask(f"begin {prime}, leads 0 {y}, common 0 {y}")[1:]
                self.assertEqual(shared[0], (prime - 5) // 4 if leading == [1] else (prime - 1) // 4)

    def test_a_point_with_itself(self):
        for prime in (3, 5, 199):
            self.assertEqual(last(f"begin {prime}, common {prime - 1} {prime - 1}"), [-22])

    def test_no_such_point(self):
        for pair in ("7 0", "0 7", f"{GREATEST} 0", f"0 {GREATEST}"):
            self.assertEqual(last(f"begin 7, common {pair}"), [-2])

    def test_no_such_point_comes_ahead_of_itself(self):
        for pair in ("7 7", f"{GREATEST} {GREATEST}"):
            self.assertEqual(last(f"begin 7, common {pair}"), [-2])


class Into(unittest.TestCase):
    def test_each_pair_by_small_primes(self):
        for prime in SQUARES:
            for x in range(prime):
                for y in range(prime):
                    both = [z for z in range(prime) if {x, y} <= set(points_led_to(prime, z))]
                    expected = [-22] if x == y else [len(both)] + both
                    with self.subTest(prime=prime, x=x, y=y):
                        self.assertEqual(last(f"begin {prime}, into {x} {y}"), expected)

    def test_worked_by_hand(self):
        # By 7 to 0 lead 3, 5, 6 and to 1 lead 0, 4, 6. By 5 one leads both ways. By 11 to 0 lead 2, 6, 7, 8, 10.
        self.assertEqual(last("begin 7, into 0 1"), [1, 6])
        self.assertEqual(last("begin 5, into 0 2"), [1, 1])
        self.assertEqual(last("begin 5, into 0 1"), [0])
        self.assertEqual(last("begin 3, into 0 1"), [0])
        self.assertEqual(last("begin 11, into 0 1"), [2, 7, 8])

    def test_the_same_as_common_just_where_the_prime_leaves_one(self):
        for prime in (5, 13, 101, 197):
            for y in range(1, prime):
                shared, both = ask(f"begin {prime}, common 0 {y}, into 0 {y}")[1:]
                self.assertEqual(both, shared)
        for prime in (7, 103, 199):
            for y in range(1, prime):
                shared, both = ask(f"begin {prime}, common 0 {y}, into 0 {y}")[1:]
                self.assertEqual(both[0], shared[0])
                self.assertEqual(set(both[1:]) & set(shared[1:]), set())

    def test_rising_in_whichever_order_they_are_named(self):
        rows = ask("begin 199, into 198 0, into 0 198")
        self.assertEqual(rows[1], rows[2])
        self.assertEqual(rows[1][1:], sorted(rows[1][1:]))
        self.assertEqual(rows[1][0], 49)

    def test_a_point_with_itself(self):
        for prime in (3, 5, 199):
            self.assertEqual(last(f"begin {prime}, into {prime - 1} {prime - 1}"), [-22])
            self.assertEqual(last(f"begin {prime}, into 0 0"), [-22])

    def test_no_such_point(self):
        for pair in ("7 0", "0 7", f"{GREATEST} 0", f"0 {GREATEST}"):
            self.assertEqual(last(f"begin 7, into {pair}"), [-2])

    def test_no_such_point_comes_ahead_of_itself(self):
        for pair in ("7 7", f"{GREATEST} {GREATEST}"):
            self.assertEqual(last(f"begin 7, into {pair}"), [-2])


class KeptDoesNotMatter(unittest.TestCase):
    def test_asking_neither_heeds_nor_changes_what_is_kept(self):
        rows = ask("begin 7, put 2, put 0, leads 0 2, of 0, common 0 1, leads 0 0, of 7, common 1 1, kept")
        self.assertEqual(rows[3:], [[1], [3, 1, 2, 4], [1, 2], [-22], [-2], [-22], [2, 2, 0]])
        rows = ask("begin 7, put 6, put 0, into 0 1, into 1 1, into 1 7, kept")
        self.assertEqual(rows[3:], [[1, 6], [-22], [-2], [2, 6, 0]])


if __name__ == "__main__":
    unittest.main()
