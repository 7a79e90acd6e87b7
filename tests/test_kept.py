"""Promise 1: begin, put, take, kept, told, move, times, grow."""

import unittest

from tests.helper import GREATEST, ask, keeping, last

TWELVE = list(range(12))
ODD_PRIMES = [
    3, 5, 7, 11, 13, 17, 19, 23, 29, 31, 37, 41, 43, 47, 53, 59, 61, 67, 71, 73, 79, 83, 89, 97,
    101, 103, 107, 109, 113, 127, 131, 137, 139, 149, 151, 157, 163, 167, 173, 179, 181, 191, 193, 197, 199,
]


class Begin(unittest.TestCase):
    def test_each_number_up_to_beyond_the_bound(self):
        for number in range(300):
            with self.subTest(number=number):
                self.assertEqual(ask(f"begin {number}"), [[0 if number in ODD_PRIMES else -22]])

    def test_great_numbers_are_refused(self):
        for number in (211, 65537, 4294967291, GREATEST):
            self.assertEqual(ask(f"begin {number}"), [[-22]])

    def test_points_go_up_to_the_prime_less_one(self):
        for prime in ODD_PRIMES:
            self.assertEqual(last(f"begin {prime}, put {prime - 1}"), [1])
            self.assertEqual(last(f"begin {prime}, put {prime}"), [-2])


class Put(unittest.TestCase):
    def test_kept_as_the_last(self):
        self.assertEqual(ask("begin 7, put 5, put 0, put 6, kept"), [[0], [1], [2], [3], [3, 5, 0, 6]])

    def test_no_such_point(self):
        for point in (7, 8, 14, GREATEST):
            self.assertEqual(ask(f"begin 7, put 3, put {point}, kept")[2:], [[-2], [1, 3]])

    def test_kept_already(self):
        self.assertEqual(ask("begin 7, put 3, put 4, put 3, kept")[3:], [[-17], [2, 3, 4]])

    def test_the_twelfth_and_the_thirteenth(self):
        rows = ask(keeping(13, TWELVE) + ", put 12, kept")
        self.assertEqual(rows[12:], [[12], [-28], [12] + TWELVE])

    def test_of_several_refusals_the_first_named(self):
        self.assertEqual(last(keeping(13, TWELVE) + ", put 13"), [-2])
        self.assertEqual(last(keeping(13, TWELVE) + ", put 0"), [-17])
        self.assertEqual(last(keeping(13, TWELVE) + ", put 11"), [-17])

    def test_all_points_of_a_small_ring(self):
        self.assertEqual(ask("begin 3, put 2, put 1, put 0, put 0, kept")[1:], [[1], [2], [3], [-17], [3, 2, 1, 0]])
        self.assertEqual(last(keeping(11, range(11)) + ", put 10"), [-17])

    def test_room_again_behind_a_take(self):
        rows = ask(keeping(13, TWELVE) + ", take 4, put 12, kept")
        self.assertEqual(rows[13:], [[11], [12], [12, 0, 1, 2, 3, 5, 6, 7, 8, 9, 10, 11, 12]])


class Take(unittest.TestCase):
    def test_the_others_stay_in_order(self):
        self.assertEqual(ask(keeping(7, [5, 0, 6]) + ", take 0, kept")[4:], [[2], [2, 5, 6]])
        self.assertEqual(ask(keeping(7, [5, 0, 6]) + ", take 5, kept")[4:], [[2], [2, 0, 6]])
        self.assertEqual(ask(keeping(7, [5, 0, 6]) + ", take 6, kept")[4:], [[2], [2, 5, 0]])

    def test_the_only_one(self):
        self.assertEqual(ask("begin 5, put 0, take 0, kept, take 0")[2:], [[0], [0], [-2]])

    def test_put_again_it_is_the_last(self):
        self.assertEqual(last(keeping(7, [5, 0, 6]) + ", take 5, put 5, kept"), [3, 0, 6, 5])

    def test_refused(self):
        for point in (4, 7, 12, GREATEST):
            self.assertEqual(ask(f"begin 7, put 5, take {point}, kept")[2:], [[-2], [1, 5]])
        self.assertEqual(last("begin 7, take 0"), [-2])


class Kept(unittest.TestCase):
    def test_nobody(self):
        self.assertEqual(ask("begin 199, kept"), [[0], [0]])

    def test_twelve_in_the_order_they_came(self):
        falling = TWELVE[::-1]
        self.assertEqual(last(keeping(199, falling) + ", kept"), [12] + falling)

    def test_asking_changes_nothing(self):
        self.assertEqual(ask("begin 5, put 4, kept, kept, put 1, kept")[2:], [[1, 4], [1, 4], [2], [2, 4, 1]])


class Told(unittest.TestCase):
    def test_each_prime_and_what_it_leaves_by_four(self):
        for prime in ODD_PRIMES:
            self.assertEqual(ask(f"begin {prime}, told"), [[0], [prime, prime % 4]])
        self.assertEqual(last("begin 3, told"), [3, 3])
        self.assertEqual(last("begin 5, told"), [5, 1])
        self.assertEqual(last("begin 197, told"), [197, 1])
        self.assertEqual(last("begin 199, told"), [199, 3])

    def test_the_newest_begin_that_was_not_refused(self):
        self.assertEqual(
            ask("begin 7, told, begin 9, told, begin 13, told, begin 200, told"),
            [[0], [7, 3], [-22], [7, 3], [0], [13, 1], [-22], [13, 1]],
        )

    def test_asking_changes_nothing(self):
        self.assertEqual(ask("begin 5, put 4, told, kept, told")[2:], [[5, 1], [1, 4], [5, 1]])


class Move(unittest.TestCase):
    def test_further_on_and_round(self):
        self.assertEqual(ask(keeping(7, [5, 0, 6]) + ", move 3, kept")[4:], [[3, 1, 3, 2], [3, 1, 3, 2]])

    def test_by_nothing_and_by_the_prime(self):
        for distance in (0, 7, 14, 4294967292):
            self.assertEqual(ask(keeping(7, [5, 0, 6]) + f", move {distance}, kept")[4:], [[3, 5, 0, 6]] * 2)

    def test_by_the_greatest_number(self):
        # It leaves 3 by 7 and 45 by 199.
        self.assertEqual(last(keeping(7, [5, 0, 6]) + f", move {GREATEST}"), [3, 1, 3, 2])
        self.assertEqual(last(keeping(199, [0, 198]) + f", move {GREATEST}"), [2, 45, 44])

    def test_nobody(self):
        self.assertEqual(ask("begin 5, move 3, kept")[1:], [[0], [0]])

    def test_twelve(self):
        moved = [10, 11, 12] + list(range(9))
        self.assertEqual(ask(keeping(13, TWELVE) + ", move 10, kept")[13:], [[12] + moved] * 2)


class Times(unittest.TestCase):
    def test_what_the_product_leaves(self):
        self.assertEqual(ask(keeping(7, [5, 0, 6]) + ", times 3, kept")[4:], [[3, 1, 0, 4], [3, 1, 0, 4]])

    def test_by_one_and_by_one_more_than_the_prime(self):
        for factor in (1, 8):
            self.assertEqual(last(keeping(7, [5, 0, 6]) + f", times {factor}"), [3, 5, 0, 6])

    def test_by_the_prime_less_one(self):
        self.assertEqual(last(keeping(7, [5, 0, 6]) + ", times 6"), [3, 2, 0, 1])
        self.assertEqual(last(keeping(199, [1, 0, 198, 100]) + ", times 198"), [4, 198, 0, 1, 99])

    def test_by_the_greatest_number(self):
        # It leaves 3 by 7.
        self.assertEqual(last(keeping(7, [5, 0, 6]) + f", times {GREATEST}"), [3, 1, 0, 4])

    def test_a_multiple_of_the_prime_is_refused(self):
        for factor in (0, 7, 14, 4294967292):
            self.assertEqual(ask(keeping(7, [5, 0, 6]) + f", times {factor}, kept")[4:], [[-22], [3, 5, 0, 6]])
        for prime in (3, 5):
            self.assertEqual(last(f"begin {prime}, put 1, times {GREATEST}"), [-22])

    def test_nobody(self):
        self.assertEqual(ask("begin 5, times 3, times 5, kept")[1:], [[0], [-22], [0]])


class Grow(unittest.TestCase):
    def test_nobody_kept_gives_the_first_point(self):
        for prime in (3, 5, 13, 199):
            self.assertEqual(ask(f"begin {prime}, grow, kept")[1:], [[0], [1, 0]])

    def test_a_prime_that_leaves_one_by_four(self):
        # By 13 the squares leave 1, 3, 4, 9, 10, 12.
        self.assertEqual(
            ask("begin 13, grow, grow, grow, grow, kept")[1:], [[0], [1], [4], [-33], [3, 0, 1, 4]]
        )
        self.assertEqual(ask("begin 5, grow, grow, grow, kept")[1:], [[0], [1], [-33], [2, 0, 1]])

    def test_a_prime_that_leaves_three_by_four(self):
        # By 7 the squares leave 1, 2, 4: to 0 lead 3, 5, 6, to 3 lead 1, 2, 6, to 6 lead 2, 4, 5.
        self.assertEqual(ask("begin 7, grow, grow, grow, grow, kept")[1:], [[0], [3], [6], [-33], [3, 0, 3, 6]])

    def test_the_greatest_prime(self):
        grown = [0, 3, 6, 27, 30, 173, 176, 179]
        rows = ask("begin 199" + ", grow" * 9 + ", kept")
        self.assertEqual(rows[1:], [[point] for point in grown] + [[-33], [8] + grown])

    def test_the_first_on_the_ring_though_a_later_one_is_kept_first(self):
        # By 13 to 6 lead 2, 3, 5, 7, 9, 10.
        self.assertEqual(ask("begin 13, put 6, grow, kept")[2:], [[2], [2, 6, 2]])

    def test_it_leads_to_the_kept_and_not_they_to_it(self):
        self.assertEqual(ask("begin 3, put 0, grow, kept")[2:], [[2], [2, 0, 2]])

    def test_nobody_leads_to_all(self):
        self.assertEqual(ask("begin 3, put 0, put 1, grow, kept")[3:], [[-33], [2, 0, 1]])
        self.assertEqual(last(keeping(11, range(11)) + ", grow"), [-33])

    def test_twelve_are_kept(self):
        # Nobody leads to all twelve either: that they are twelve comes first.
        self.assertEqual(ask(keeping(13, TWELVE) + ", grow, kept")[13:], [[-28], [12] + TWELVE])

    def test_the_twelfth_grows_and_no_thirteenth(self):
        # 0 leads to all of these by 199, so it's not for want of a point that the second is refused.
        eleven = [4, 1, 2, 5, 7, 8, 9, 10, 13, 14, 16]
        rows = ask(keeping(199, eleven) + ", grow, kept, grow, kept")
        self.assertEqual(rows[12:], [[0], [12] + eleven + [0], [-28], [12] + eleven + [0]])
        self.assertEqual(last(keeping(199, eleven + [18]) + ", grow"), [-28])


if __name__ == "__main__":
    unittest.main()
