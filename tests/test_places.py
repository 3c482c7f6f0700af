import copy
import unittest

from berthline.places import first_place, longest_free, moved_up

PARTS = 500


def all_rows(quay, gap, start=0):
    """Every list of rows that lies within the quay and keeps the gap."""
    yield []
    for first in range(start, quay):
        for length in range(1, quay - first + 1):
            for rest in all_rows(quay, gap, first + length + gap):
                yield [(first, length)] + rest


def fits(rows, place, length, gap, quay):
    if place < 0 or place + length > quay:
        return False
    return all(
        place + length + gap <= first or first + size + gap <= place
        for first, size in rows
    )


def first_place_by_trial(rows, length, gap, quay):
    for place in range(quay + 1):
        if fits(rows, place, length, gap, quay):
            return place
    return None


def longest_free_by_trial(rows, quay):
    taken = [False] * quay
    for first, size in rows:
        for metre in range(first, first + size):
            taken[metre] = True
    longest = 0
    run = 0
    for metre in taken:
        run = 0 if metre else run + 1
        longest = max(longest, run)
    return longest


def spaced(count, length, gap):
    return [(turn * (length + gap), length) for turn in range(count)]


class FirstPlaceTest(unittest.TestCase):
    def test_no_ship_there(self):
        self.assertEqual(first_place([], 10, 0, 100), 0)
        self.assertEqual(first_place([], 10, 7, 100), 0)

    def test_ahead_of_the_first_ship(self):
        self.assertEqual(first_place([(40, 20)], 10, 5, 100), 0)

    def test_between_two_ships(self):
        self.assertEqual(first_place([(0, 20), (60, 20)], 10, 5, 100), 25)

    def test_behind_the_last_ship(self):
        self.assertEqual(first_place([(0, 20), (25, 20)], 10, 5, 100), 50)

    def test_least_of_several_places(self):
        rows = [(0, 10), (30, 10), (60, 10)]
        self.assertEqual(first_place(rows, 5, 2, 100), 12)

    def test_a_tighter_place_later_is_not_taken_before_a_wider_one(self):
        rows = [(0, 10), (50, 10), (65, 10)]
        self.assertEqual(first_place(rows, 5, 0, 100), 10)

    def test_stretch_too_short_is_passed_over(self):
        rows = [(0, 10), (15, 10), (45, 10)]
        self.assertEqual(first_place(rows, 8, 1, 100), 26)

    def test_just_long_enough_ahead(self):
        self.assertEqual(first_place([(13, 20)], 10, 3, 100), 0)
        self.assertEqual(first_place([(12, 20)], 10, 3, 100), 35)

    def test_just_long_enough_between_with_a_gap_on_each_side(self):
        self.assertEqual(first_place([(0, 20), (36, 20)], 10, 3, 56), 23)
        self.assertIsNone(first_place([(0, 20), (35, 20)], 10, 3, 55))

    def test_just_long_enough_between_without_a_gap(self):
        self.assertEqual(first_place([(0, 20), (30, 20)], 10, 0, 50), 20)
        self.assertIsNone(first_place([(0, 20), (29, 20)], 10, 0, 49))

    def test_one_metre_free_takes_one_metre(self):
        self.assertEqual(first_place([(0, 4), (5, 5)], 1, 0, 10), 4)

    def test_ends_just_at_the_quays_end(self):
        self.assertEqual(first_place([(0, 20)], 10, 5, 35), 25)
        self.assertIsNone(first_place([(0, 20)], 10, 5, 34))
        self.assertEqual(first_place([(0, 20)], 10, 0, 30), 20)
        self.assertIsNone(first_place([(0, 20)], 10, 0, 29))

    def test_the_quays_ends_need_no_gap(self):
        self.assertEqual(first_place([], 10, 50, 10), 0)

    def test_gap_greater_than_what_is_left_of_the_quay(self):
        self.assertIsNone(first_place([(0, 9)], 1, 5, 10))
        self.assertIsNone(first_place([(0, 10)], 1, 5, 10))

    def test_quay_of_nought_metres(self):
        self.assertIsNone(first_place([], 1, 0, 0))
        self.assertIsNone(first_place([], 1, 3, 0))

    def test_length_greater_than_the_quay(self):
        self.assertIsNone(first_place([], 11, 0, 10))
        self.assertIsNone(first_place([(5, 2)], 11, 0, 10))
        self.assertIsNone(first_place([], 10 ** 40, 0, 10))
        self.assertIsNone(first_place([(5, 2)], 10 ** 40, 1, 10))

    def test_very_great_numbers_are_exact(self):
        great = 10 ** 40
        self.assertEqual(first_place([(0, great)], great, 1, 2 * great + 1), great + 1)
        self.assertIsNone(first_place([(0, great)], great, 1, 2 * great))

    def test_full_quay(self):
        self.assertIsNone(first_place([(0, 4), (4, 6)], 1, 0, 10))

    def test_nought_is_told_as_a_number(self):
        place = first_place([], 1, 0, 1)
        self.assertIs(place.__class__, int)
        self.assertEqual(place, 0)

    def test_every_small_quay_against_trial(self):
        for quay in range(8):
            for gap in range(4):
                for rows in all_rows(quay, gap):
                    for length in range(1, quay + 3):
                        self.assertEqual(
                            first_place(rows, length, gap, quay),
                            first_place_by_trial(rows, length, gap, quay),
                            (rows, length, gap, quay),
                        )

    def test_arguments_by_name(self):
        self.assertEqual(first_place(rows=[(0, 2)], length=3, gap=1, quay=9), 3)


class LongestFreeTest(unittest.TestCase):
    def test_no_ship_there(self):
        self.assertEqual(longest_free([], 100), 100)
        self.assertEqual(longest_free([], 1), 1)

    def test_longest_ahead(self):
        self.assertEqual(longest_free([(50, 10), (70, 10)], 90), 50)

    def test_longest_between(self):
        self.assertEqual(longest_free([(10, 10), (70, 10)], 90), 50)

    def test_longest_behind(self):
        self.assertEqual(longest_free([(10, 10), (30, 10)], 90), 50)

    def test_gaps_are_counted_in(self):
        self.assertEqual(longest_free([(0, 10), (15, 10)], 25), 5)

    def test_stretches_are_not_added_up(self):
        self.assertEqual(longest_free([(3, 1), (7, 1)], 11), 3)

    def test_full_quay(self):
        self.assertEqual(longest_free([(0, 10)], 10), 0)
        self.assertEqual(longest_free([(0, 4), (4, 6)], 10), 0)

    def test_one_metre_free(self):
        self.assertEqual(longest_free([(1, 9)], 10), 1)
        self.assertEqual(longest_free([(0, 9)], 10), 1)
        self.assertEqual(longest_free([(0, 4), (5, 5)], 10), 1)

    def test_quay_of_nought_metres(self):
        self.assertEqual(longest_free([], 0), 0)

    def test_every_small_quay_against_trial(self):
        for quay in range(9):
            for rows in all_rows(quay, 0):
                self.assertEqual(
                    longest_free(rows, quay),
                    longest_free_by_trial(rows, quay),
                    (rows, quay),
                )

    def test_arguments_by_name(self):
        self.assertEqual(longest_free(rows=[(0, 2)], quay=9), 7)


class MovedUpTest(unittest.TestCase):
    def test_no_ship(self):
        self.assertEqual(moved_up([], 0), [])
        self.assertEqual(moved_up([], 5), [])

    def test_one_ship_goes_to_nought_whatever_the_gap(self):
        self.assertEqual(moved_up([(17, 4)], 0), [(0, 4)])
        self.assertEqual(moved_up([(17, 4)], 5), [(0, 4)])

    def test_several_ships_without_a_gap(self):
        rows = [(3, 10), (20, 5), (40, 7)]
        self.assertEqual(moved_up(rows, 0), [(0, 10), (10, 5), (15, 7)])

    def test_several_ships_with_a_gap(self):
        rows = [(3, 10), (20, 5), (40, 7)]
        self.assertEqual(moved_up(rows, 2), [(0, 10), (12, 5), (19, 7)])

    def test_ships_that_lie_right_stay(self):
        self.assertEqual(moved_up([(0, 10), (10, 5)], 0), [(0, 10), (10, 5)])
        self.assertEqual(moved_up([(0, 10), (13, 5)], 3), [(0, 10), (13, 5)])

    def test_only_the_ships_behind_a_hole_are_moved(self):
        rows = [(0, 10), (11, 5), (30, 7)]
        self.assertEqual(moved_up(rows, 1), [(0, 10), (11, 5), (17, 7)])

    def test_lengths_stay_in_their_order(self):
        rows = [(5, 9), (20, 1), (30, 5), (50, 3)]
        self.assertEqual([row[1] for row in moved_up(rows, 1)], [9, 1, 5, 3])

    def test_a_list_of_tuples(self):
        moved = moved_up([(3, 1), (6, 2)], 1)
        self.assertIs(moved.__class__, list)
        for row in moved:
            self.assertIs(row.__class__, tuple)

    def test_every_small_quay_each_ship_at_its_least_metre(self):
        for gap in range(4):
            for rows in all_rows(8, gap):
                moved = moved_up(rows, gap)
                self.assertEqual([row[1] for row in moved], [row[1] for row in rows])
                for turn, row in enumerate(moved):
                    ahead = moved[turn - 1] if turn else None
                    least = ahead[0] + ahead[1] + gap if ahead else 0
                    self.assertEqual(row[0], least, (rows, gap))

    def test_arguments_by_name(self):
        self.assertEqual(moved_up(rows=[(3, 2)], gap=1), [(0, 2)])


class HandedInTest(unittest.TestCase):
    def assert_kept(self, call):
        for rows in ([], [(4, 2)], [(2, 10), (20, 5), (40, 7)]):
            before = copy.deepcopy(rows)
            call(rows)
            self.assertEqual(rows, before)

    def test_first_place_changes_nothing(self):
        for length in (1, 10, 100):
            self.assert_kept(lambda rows: first_place(rows, length, 2, 60))

    def test_longest_free_changes_nothing(self):
        self.assert_kept(lambda rows: longest_free(rows, 60))

    def test_moved_up_changes_nothing(self):
        self.assert_kept(lambda rows: moved_up(rows, 2))

    def test_moved_up_gives_a_list_of_its_own(self):
        for rows in ([], [(0, 4), (6, 3)]):
            before = list(rows)
            moved_up(rows, 2).append((100, 1))
            self.assertEqual(rows, before)

    def test_a_second_call_answers_the_same(self):
        rows = [(2, 10), (20, 5)]
        self.assertEqual(moved_up(rows, 1), moved_up(rows, 1))
        self.assertEqual(moved_up([], 1), [])
        self.assertEqual(first_place(rows, 4, 1, 60), first_place(rows, 4, 1, 60))
        self.assertEqual(longest_free(rows, 60), longest_free(rows, 60))


class ManyPartsTest(unittest.TestCase):
    def test_first_place(self):
        rows = spaced(PARTS, 3, 2)
        self.assertEqual(first_place(rows, 4, 2, 5 * PARTS + 4), 5 * PARTS)
        self.assertIsNone(first_place(rows, 4, 2, 5 * PARTS + 3))

    def test_longest_free(self):
        rows = spaced(PARTS, 3, 2)
        self.assertEqual(longest_free(rows, 5 * PARTS), 2)
        self.assertEqual(longest_free(rows, 5 * PARTS + 7), 9)

    def test_moved_up(self):
        rows = spaced(PARTS, 3, 2)
        self.assertEqual(moved_up(rows, 1), spaced(PARTS, 3, 1))

    def test_somewhat_more_parts_are_answered_too(self):
        rows = spaced(PARTS + 100, 3, 2)
        self.assertEqual(first_place(rows, 4, 2, 10 ** 6), 5 * (PARTS + 100))
        self.assertEqual(longest_free(rows, 5 * (PARTS + 100)), 2)
        self.assertEqual(moved_up(rows, 0), spaced(PARTS + 100, 3, 0))


if __name__ == "__main__":
    unittest.main()
