"""Promise 3: who, inner, group, greatest."""

import unittest
from itertools import combinations

from tests.helper import ask, due, greatest_groups, keeping, last, led

TWELVE = list(range(12))
# By 199 0 leads to all of these.
LED_TO_BY_NOUGHT = [4, 1, 2, 5, 7, 8, 9, 10, 13, 14, 16, 18]
# How many a greatest group has, by each prime below 200 that leaves 1 by four, as is known of these primes.
GREATEST_COUNTS = {
    5: 2, 13: 3, 17: 3, 29: 4, 37: 4, 41: 5, 53: 5, 61: 5, 73: 5, 89: 5, 97: 6, 101: 5, 109: 6, 113: 7,
    137: 7, 149: 7, 157: 7, 173: 8, 181: 7, 193: 7, 197: 8,
}
LEAVING_THREE = [
    3, 7, 11, 19, 23, 31, 43, 47, 59, 67, 71, 79, 83, 103, 107, 127, 131, 139, 151, 163, 167, 179, 191, 199,
]


class Who(unittest.TestCase):
    def test_nobody_kept(self):
        for prime in (3, 5, 13, 197, 199):
            self.assertEqual(ask(f"begin {prime}, who"), [[0], [prime] + list(range(prime))])
        self.assertEqual(last("begin 5, put 2, take 2, who"), [5, 0, 1, 2, 3, 4])

    def test_one_kept(self):
        # By 7 to 0 lead 3, 5, 6; by 3 to 0 leads 2; by 5 to 0 lead 1, 4.
        self.assertEqual(last("begin 7, put 0, who"), [3, 3, 5, 6])
        self.assertEqual(last("begin 3, put 0, who"), [1, 2])
        self.assertEqual(last("begin 5, put 0, who"), [2, 1, 4])

    def test_it_must_lead_to_all(self):
        self.assertEqual(last("begin 7, put 0, put 3, who"), [1, 6])
        self.assertEqual(last("begin 13, put 0, put 1, who"), [2, 4, 10])

    def test_any_three_by_small_primes(self):
        for prime in (3, 5, 7, 11, 13):
            for points in combinations(range(prime), 3):
                text = keeping(prime, points) + ", who"
                with self.subTest(prime=prime, points=points):
                    self.assertEqual(ask(text), due(text))

    def test_any_two_are_led_to_by_one_from_seven_on(self):
        for prime in (7, 13, 199):
            for y in range(1, prime):
                self.assertGreater(last(f"begin {prime}, put 0, put {y}, who")[0], 0)

    def test_twelve_kept(self):
        rows = ask(keeping(199, LED_TO_BY_NOUGHT) + ", who, kept")
        expected = [z for z in range(199) if led(199)[z] >= set(LED_TO_BY_NOUGHT)]
        self.assertEqual(expected[0], 0)
        self.assertEqual(rows[13:], [[len(expected)] + expected, [12] + LED_TO_BY_NOUGHT])

    def test_where_nobody_does(self):
        self.assertEqual(last(keeping(13, TWELVE) + ", who"), [0])
        self.assertEqual(last("begin 3, put 0, put 1, who"), [0])
        self.assertEqual(last("begin 5, put 0, put 1, who"), [0])
        self.assertEqual(last(keeping(11, range(11)) + ", who"), [0])

    def test_the_first_of_them_is_the_one_that_grows(self):
        rows = ask("begin 197" + ", who, grow" * 12)
        for told, grown in zip(rows[1::2], rows[2::2]):
            self.assertEqual(grown, [told[1]] if told[0] else [-33])


class Inner(unittest.TestCase):
    def test_none_and_one(self):
        for prime in (3, 5, 197, 199):
            self.assertEqual(ask(f"begin {prime}, inner, put 1, inner"), [[0], [0], [1], [0]])

    def test_every_pair_counts_once_by_primes_that_leave_three(self):
        self.assertEqual(ask("begin 3, put 2, put 0, inner, put 1, inner")[3:], [[1], [3], [3]])
        self.assertEqual(last(keeping(7, range(7)) + ", inner"), [21])
        self.assertEqual(last(keeping(199, LED_TO_BY_NOUGHT) + ", inner"), [66])

    def test_a_pair_counts_once_by_primes_that_leave_one(self):
        # By 13 the squares leave 1, 3, 4, 9, 10, 12.
        self.assertEqual(
            ask("begin 13, put 0, put 4, inner, put 2, inner, put 1, inner")[3:], [[1], [3], [1], [4], [4]]
        )
        self.assertEqual(ask("begin 5, put 0, put 2, inner, put 4, inner")[3:], [[0], [3], [1]])
        self.assertEqual(last(keeping(5, range(5)) + ", inner"), [5])
        # Each of the thirteen is in six of 39 pairs, and one of them isn't kept.
        self.assertEqual(last(keeping(13, TWELVE) + ", inner"), [33])

    def test_any_three_by_small_primes(self):
        for prime in (3, 5, 7, 11, 13):
            for points in combinations(range(prime), 3):
                text = keeping(prime, points[::-1]) + ", inner"
                with self.subTest(prime=prime, points=points):
                    self.assertEqual(ask(text), due(text))

    def test_moved_all_stays_and_times_no_squares_remainder_each_leads_where_it_did_not(self):
        # By 13 no square leaves 2.
        changes = ", inner, move 11, inner, times 2, inner, times 2, inner, times 12, inner"
        rows = ask(keeping(13, [0, 4, 2, 1]) + changes)
        self.assertEqual(rows[5::2], [[4], [4], [2], [4], [4]])


class Group(unittest.TestCase):
    def test_none_and_one(self):
        for prime in (3, 5, 197, 199):
            self.assertEqual(ask(f"begin {prime}, group, put 1, group"), [[0], [1], [1], [1]])

    def test_two_are_none_by_primes_that_leave_three(self):
        for prime in (3, 7, 199):
            for y in range(1, prime):
                self.assertEqual(last(f"begin {prime}, put 0, put {y}, group"), [0])
        self.assertEqual(last("begin 3, put 0, put 1, put 2, group"), [0])

    def test_two_are_one_where_they_lead_to_each_other(self):
        for prime in (5, 13, 197):
            for y in range(1, prime):
                leading, together = ask(f"begin {prime}, leads 0 {y}, put 0, put {y}, group")[1::3]
                self.assertEqual(together, leading)

    def test_any_three_by_small_primes(self):
        for prime in (3, 5, 7, 11, 13, 17):
            for points in combinations(range(prime), 3):
                text = keeping(prime, points) + ", group"
                with self.subTest(prime=prime, points=points):
                    self.assertEqual(ask(text), due(text))

    def test_in_whatever_order_they_are_kept(self):
        for points in ([0, 1, 4], [4, 1, 0], [1, 0, 4]):
            self.assertEqual(last(keeping(13, points) + ", group"), [1])
        for points in ([0, 1, 2], [2, 0, 1], [1, 2, 0]):
            self.assertEqual(last(keeping(13, points) + ", group"), [0])

    def test_one_that_does_not_fit_is_taken_away(self):
        self.assertEqual(ask(keeping(13, [0, 2, 1, 4]) + ", group, take 2, group")[5:], [[0], [3], [1]])

    def test_twelve(self):
        self.assertEqual(last(keeping(13, TWELVE) + ", group"), [0])
        self.assertEqual(last(keeping(199, LED_TO_BY_NOUGHT) + ", group"), [0])

    def test_the_greatest_is_one_and_stays_one_when_moved(self):
        members = last("begin 197, greatest")[1:]
        rows = ask(keeping(197, members) + ", group, move 150, group, times 196, group, inner")
        self.assertEqual(rows[9::2], [[1], [1], [1]])
        self.assertEqual(rows[-1], [28])

    def test_what_grows_is_one_by_primes_that_leave_one(self):
        self.assertEqual(ask("begin 197" + ", grow, group" * 4)[2::2], [[1]] * 4)


class Greatest(unittest.TestCase):
    def test_worked_by_hand(self):
        # By 5 no third fits 0 and 1, by 13 4 or 10 does, by 17 2, 9 or 16 does; no two of these fit together.
        self.assertEqual(last("begin 5, greatest"), [2, 0, 1])
        self.assertEqual(last("begin 13, greatest"), [3, 0, 1, 4])
        self.assertEqual(last("begin 17, greatest"), [3, 0, 1, 2])

    def test_each_prime_that_leaves_one_by_four(self):
        for prime, count in GREATEST_COUNTS.items():
            with self.subTest(prime=prime):
                told = last(f"begin {prime}, greatest")
                members = told[1:]
                self.assertEqual(told[0], count)
                self.assertEqual(len(members), count)
                self.assertEqual(members[:2], [0, 1])
                self.assertEqual(members, sorted(set(members)))
                for x, y in combinations(members, 2):
                    self.assertIn(y, led(prime)[x])
                    self.assertIn(x, led(prime)[y])
                self.assertEqual(tuple(members), min(greatest_groups(prime)))

    def test_it_is_not_enough_to_take_the_first_each_time(self):
        # Who takes the first that fits each time comes to fewer.
        self.assertEqual(ask("begin 197" + ", grow" * 8)[-1], [-33])
        self.assertEqual(last("begin 197, greatest"), [8, 0, 1, 7, 54, 60, 61, 97, 161])
        self.assertEqual(last("begin 41, greatest"), [5, 0, 1, 2, 10, 33])

    def test_it_is_not_greater_than_what_holds(self):
        for prime in GREATEST_COUNTS:
            count = last(f"begin {prime}, greatest")[0]
            self.assertLessEqual((2 * count - 1) * (2 * count - 1), 2 * prime - 1)

    def test_refused_by_primes_that_leave_three(self):
        for prime in LEAVING_THREE:
            self.assertEqual(ask(f"begin {prime}, greatest"), [[0], [-33]])

    def test_what_is_kept_is_neither_heeded_nor_changed(self):
        alone = last("begin 29, greatest")
        for points in ([0], [1, 0], [2, 3, 7, 28], alone[1:], TWELVE):
            rows = ask(keeping(29, points) + ", greatest, kept")
            self.assertEqual(rows[-2:], [alone, [len(points)] + points])
        self.assertEqual(ask("begin 7, put 5, greatest, kept")[2:], [[-33], [1, 5]])

    def test_the_prime_of_the_newest_begin(self):
        rows = ask(", ".join(f"begin {number}, greatest" for number in (13, 17, 7, 13, 15)))
        self.assertEqual(rows[1::2], [[3, 0, 1, 4], [3, 0, 1, 2], [-33], [3, 0, 1, 4], [3, 0, 1, 4]])


class AskingChangesNothing(unittest.TestCase):
    def test_who_inner_group_and_greatest(self):
        for prime in (13, 199):
            points = [9, 0, 3, 12]
            rows = ask(keeping(prime, points) + ", who, kept, inner, kept, group, kept, greatest, kept, told")
            self.assertEqual(rows[6::2], [[4] + points] * 4)
            self.assertEqual(rows[-1], [prime, prime % 4])

    def test_asked_again_the_same(self):
        asked = ", who, inner, group, greatest"
        for prime in (13, 199):
            rows = ask(keeping(prime, [9, 0]) + asked * 2)
            self.assertEqual(rows[3:7], rows[7:])


if __name__ == "__main__":
    unittest.main()
