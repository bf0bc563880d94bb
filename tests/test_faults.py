"""A room's faults and a book's, as the call taps tells them."""

import random
import unittest

from tests.helper import BIG, BOX, FULL_BOOK, LOW, one, room_row, slow_line_fault, taps_call

WITHIN = (5, 5, 5)


def comb():
    """A room of 64 corners."""
    corners = [(0, 0), (31, 0), (31, 3)]
    for x in range(30, 0, -1):
        corners += [(x, 3), (x, 2)] if x % 2 == 0 else [(x, 2), (x, 3)]
    return corners + [(0, 3)]


class RoomFaults(unittest.TestCase):
    def check(self, numbers, rule, wall):
        with self.subTest(room=numbers):
            self.assertEqual(one(taps_call(numbers, WITHIN, WITHIN)), [-5, rule, wall])

    def check_sound(self, numbers, within=WITHIN):
        with self.subTest(room=numbers):
            self.assertEqual(one(taps_call(numbers, within, within)), [0, 0, 2 ** 32])

    def changed(self, place, number):
        numbers = room_row(BOX)
        numbers[place] = number
        return numbers

    def test_rule_1_fewer_than_three_numbers(self):
        self.check([], 1, 0)
        self.check([10], 1, 0)
        self.check([10, 0], 1, 0)

    def test_rule_1_not_three_a_corner(self):
        self.check(room_row(BOX) + [0], 1, 0)
        self.check(room_row(BOX) + [0, 0], 1, 0)
        self.check(room_row(BOX)[:-1], 1, 0)

    def test_rule_1_corners_from_3_to_64(self):
        self.check([10, 0, 0], 1, 0)
        self.check(room_row(BOX[:2]), 1, 0)
        self.check_sound(room_row([(0, 0), (20, 0), (0, 20)]))
        self.check_sound(room_row(comb()), (5, 1, 5))
        self.check(room_row(comb() + [(0, 1)]), 1, 0)
        self.check(room_row(comb() * 2), 1, 0)
        self.check([0] * 15000, 1, 0)

    def test_rule_2_height(self):
        for height in (0, -1, 4096, BIG, LOW):
            self.check(self.changed(0, height), 2, 0)
        self.check_sound(self.changed(0, 4095))

    def test_rule_2_the_lowest_height_has_no_inside(self):
        self.assertEqual(one(taps_call(self.changed(0, 1), WITHIN, WITHIN)), [-3])

    def test_rule_2_floor_and_ceiling(self):
        for place in (1, 2):
            for stuff in (-1, 8, BIG, LOW):
                self.check(self.changed(place, stuff), 2, 0)
            self.check_sound(self.changed(place, 7))

    def test_rule_3_each_corner(self):
        for corner in range(4):
            for part in (0, 1):
                for number in (-1, 4096, BIG, LOW):
                    self.check(self.changed(3 + 3 * corner + part, number), 3, corner)
            for stuff in (-1, 8, BIG, LOW):
                self.check(self.changed(5 + 3 * corner, stuff), 3, corner)
            self.check_sound(self.changed(5 + 3 * corner, 7))

    def test_rule_3_bounds(self):
        self.check_sound(room_row([(0, 0), (4095, 0), (4095, 4095), (0, 4095)]))

    def test_rule_4_no_length(self):
        self.check(room_row([(0, 0), (0, 0), (10, 0), (0, 10)]), 4, 0)
        self.check(room_row([(0, 0), (10, 0), (10, 0), (0, 10)]), 4, 1)
        self.check(room_row([(0, 0), (10, 0), (0, 10), (0, 0)]), 4, 3)
        self.check(room_row([(3, 3)] * 3), 4, 0)

    def test_rule_4_none_of_the_eight_directions(self):
        self.check(room_row([(0, 0), (10, 1), (10, 10), (0, 10)]), 4, 0)
        self.check(room_row([(0, 0), (10, 0), (9, 10), (0, 10)]), 4, 1)
        self.check(room_row([(0, 0), (10, 0), (10, 10), (0, 11)]), 4, 2)
        self.check(room_row([(1, 0), (10, 0), (10, 10), (0, 10)]), 4, 3)

    def test_rule_4_all_eight_directions_are_taken(self):
        self.check_sound(room_row([(3, 0), (7, 0), (10, 3), (10, 7), (7, 10), (3, 10), (0, 7), (0, 3)]))

    def test_rule_5_one_direction(self):
        self.check(room_row([(0, 0), (5, 0), (10, 0), (10, 10), (0, 10)]), 5, 0)
        self.check(room_row([(0, 0), (10, 0), (10, 5), (10, 10), (0, 10)]), 5, 1)
        self.check(room_row([(0, 5), (0, 0), (10, 0), (10, 10), (0, 10)]), 5, 4)
        self.check(room_row([(0, 0), (10, 0), (5, 5), (0, 10)]), 5, 1)

    def test_rule_5_opposite_directions(self):
        self.check(room_row([(0, 0), (12, 0), (10, 0), (10, 10), (0, 10)]), 5, 0)
        self.check(room_row([(0, 0), (10, 0), (10, 10), (0, 10), (0, 12)]), 5, 3)
        self.check(room_row([(0, 0), (10, 0), (10, 10), (12, 12)]), 5, 2)
        self.check(room_row([(0, 0), (10, 0), (5, 0)]), 5, 0)

    def test_rule_6_lines_that_cross(self):
        self.check(room_row([(0, 0), (10, 10), (10, 0), (0, 10)]), 6, 0)
        self.check(room_row([(0, 0), (10, 0), (10, 10), (4, 10), (4, 6), (8, 6), (8, 12), (0, 12)]), 6, 2)

    def test_rule_6_a_corner_on_a_line(self):
        self.check(room_row([(0, 0), (10, 0), (10, 10), (8, 10), (8, 0), (2, 6), (2, 10), (0, 10)]), 6, 0)
        self.check(room_row([(0, 0), (10, 0), (10, 10), (5, 10), (5, 0), (4, 1), (4, 10), (0, 10)]), 6, 0)

    def test_rule_6_a_corner_on_a_corner(self):
        self.check(room_row([(0, 0), (5, 5), (10, 0), (10, 10), (5, 5), (0, 10)]), 6, 0)

    def test_rule_6_lines_along_each_other(self):
        self.check(room_row([(0, 0), (10, 0), (10, 10), (8, 10), (8, 0), (2, 0), (2, 10), (0, 10)]), 6, 0)

    def test_rule_6_the_least_line_stands_before_its_partner(self):
        corners = [(0, 0), (20, 0), (20, 10), (10, 10), (10, 5), (15, 5), (15, 12), (0, 12)]
        self.assertEqual(slow_line_fault(corners), [6, 2])
        self.check(room_row(corners), 6, 2)

    def test_rule_6_lines_on_one_line_that_do_not_meet_are_sound(self):
        self.check_sound(room_row([(0, 0), (4, 0), (4, 2), (6, 2), (6, 0), (10, 0), (10, 10), (0, 10)]))

    def test_rule_7(self):
        self.check(room_row(list(reversed(BOX))), 7, 0)
        self.check(room_row([(0, 0), (0, 20), (20, 0)]), 7, 0)
        self.check(room_row([(0, 0), (0, 10), (10, 10), (10, 5), (5, 5), (5, 0)]), 7, 0)

    def test_the_first_of_several(self):
        self.check([0, 9, 9], 1, 0)
        self.check([0, 0, 0] + [-1, 0, 0] * 3, 2, 0)
        # A later corner's rule 3 comes before an earlier line's rule 4.
        self.check(room_row([(0, 0), (10, 1), (10, 10), (0, 10)], stuffs=[0, 0, 0, 8]), 3, 3)
        self.check(room_row([(0, 0), (-1, 0), (10, 4096)]), 3, 1)
        # Likewise a later line's rule 4 before rule 5, and rule 5 before rule 6.
        self.check(room_row([(0, 0), (5, 0), (10, 0), (10, 10), (1, 9)]), 4, 3)
        self.check(room_row([(0, 0), (10, 10), (10, 0), (0, 10), (0, 5)]), 5, 3)
        # Rule 6 before rule 7.
        self.check(room_row([(0, 10), (10, 0), (10, 10), (0, 0)]), 6, 0)

    def test_lines_against_the_slow_reckoning(self):
        rng = random.Random(2)
        eight = [(1, 0), (1, 1), (0, 1), (-1, 1), (-1, 0), (-1, -1), (0, -1), (1, -1)]
        seen = {}
        while len(seen) < 5 or min(seen.values()) < 20:
            corners = [(rng.randrange(6), rng.randrange(6))]
            for step in range(rng.randrange(2, 8)):
                (x, y), (right, up), far = corners[-1], rng.choice(eight), rng.randrange(1, 5)
                corners.append((x + right * far, y + up * far))
            if all(0 <= number <= 6 for corner in corners for number in corner):
                fault = slow_line_fault(corners)
                seen[fault and fault[0]] = seen.get(fault and fault[0], 0) + 1
                answer = one(taps_call(room_row(corners), (0, 0, 0), WITHIN))
                self.assertEqual(answer, [-3] if fault is None else [-5] + fault, corners)


class BookFaults(unittest.TestCase):
    def check(self, book, answer):
        with self.subTest(book=book):
            self.assertEqual(one(taps_call(room_row(BOX), WITHIN, WITHIN, book=book)), answer)

    def test_how_many_numbers(self):
        for count in (0, 1, 35, 37, 72, 15000):
            self.check([0] * count, [-6, count])

    def test_the_count_comes_before_the_places(self):
        self.check([32769] * 35, [-6, 35])
        self.check([BIG] * 37, [-6, 37])

    def test_the_place_of_the_first_above(self):
        for place in range(36):
            book = list(FULL_BOOK)
            book[place] = 32769
            self.check(book, [-6, place])
            book[35] = BIG
            self.check(book, [-6, place])

    def test_numbers_at_the_bounds(self):
        self.check([32768] * 36, [0, 0, 2 ** 32])
        self.check([0] * 36, [0, 0, 2 ** 32])


if __name__ == "__main__":
    unittest.main()
