import copy
import itertools
import unittest

from berthline.errors import NoRoom, NoShip, QuayError, Twice
from berthline.quay import Quay

GREAT = 10 ** 12


def quay_with(length, gap, *ships):
    """A quay to which the ships (name, length) have come in turn."""
    quay = Quay(length, gap)
    for name, size in ships:
        quay.come(name, size)
    return quay


def keeps_point_two(ships, gap, quay):
    return all(first >= 0 and size >= 1 and first + size <= quay for name, first, size in ships) and all(
        one[1] + one[2] + gap <= other[1] or other[1] + other[2] + gap <= one[1]
        for one, other in itertools.combinations(ships, 2)
    )


class Model:
    """The quay of the document by trial of every metre, to compare with."""

    def __init__(self, length, gap):
        self.length = length
        self.gap = gap
        self.berths = {}

    def ships(self):
        rows = [(name, first, size) for name, (first, size) in self.berths.items()]
        return sorted(rows, key=lambda row: row[1])

    def come(self, name, size):
        if size < 1:
            return NoShip
        if name in self.berths:
            return Twice
        for first in range(self.length + 1):
            if keeps_point_two(self.ships() + [(name, first, size)], self.gap, self.length):
                self.berths[name] = (first, size)
                return first
        return NoRoom

    def leave(self, name):
        if name not in self.berths:
            return NoShip
        self.berths.pop(name)
        return name

    def move_up(self):
        before = self.ships()
        ahead = []
        moved = 0
        for name, first, size in before:
            least = 0
            if ahead:
                least = ahead[-1][1] + ahead[-1][2]
            while not keeps_point_two(ahead + [(name, least, size)], self.gap, self.length):
                least += 1
            ahead.append((name, least, size))
            moved += abs(first - least)
        self.berths = {name: (first, size) for name, first, size in ahead}
        return moved


def tried(deed, *values):
    """What a deed answers, or the class of its refusal."""
    try:
        return deed(*values)
    except QuayError as refusal:
        return refusal.__class__


class QuayTest(unittest.TestCase):
    def refused(self, refusal, quay, deed, *values):
        """The deed is refused with just this class, and the quay stays as it was."""
        before = copy.deepcopy(quay.ships)
        with self.assertRaises(refusal) as taken:
            getattr(quay, deed)(*values)
        self.assertIs(taken.exception.__class__, refusal)
        self.assertIsInstance(taken.exception, QuayError)
        self.assertIsInstance(taken.exception, ValueError)
        self.assertEqual(quay.ships, before)


class MadeTest(QuayTest):
    def test_fields_are_set_when_it_is_made(self):
        quay = Quay(100, 5)
        self.assertEqual((quay.length, quay.gap, quay.ships), (100, 5, []))

    def test_arguments_bear_the_names_of_the_interface(self):
        quay = Quay(length=100, gap=5)
        self.assertEqual((quay.length, quay.gap), (100, 5))
        self.assertEqual(quay.come(name="A", length=10), 0)
        self.assertEqual(quay.leave(name="A"), "A")

    def test_length_and_gap_stay(self):
        quay = quay_with(100, 5, ("A", 10), ("B", 10))
        quay.leave("A")
        quay.move_up()
        self.assertEqual((quay.length, quay.gap), (100, 5))


class ComeTest(QuayTest):
    def test_on_a_quay_without_ships(self):
        for gap in (0, 7, 1000):
            with self.subTest(gap=gap):
                quay = Quay(100, gap)
                self.assertEqual(quay.come("A", 10), 0)
                self.assertEqual(quay.ships, [("A", 0, 10)])

    def test_behind_ships(self):
        quay = Quay(100, 0)
        self.assertEqual([quay.come("A", 10), quay.come("B", 20), quay.come("C", 30)], [0, 10, 30])
        self.assertEqual(quay.ships, [("A", 0, 10), ("B", 10, 20), ("C", 30, 30)])

    def test_behind_ships_with_a_gap(self):
        quay = Quay(100, 5)
        self.assertEqual([quay.come("A", 10), quay.come("B", 20), quay.come("C", 30)], [0, 15, 40])
        self.assertEqual(quay.ships, [("A", 0, 10), ("B", 15, 20), ("C", 40, 30)])

    def test_ahead_of_ships(self):
        quay = quay_with(100, 5, ("A", 20), ("B", 30))
        quay.leave("A")
        self.assertEqual(quay.come("C", 15), 0)
        self.assertEqual(quay.ships, [("C", 0, 15), ("B", 25, 30)])

    def test_ahead_of_ships_just_fitting(self):
        quay = quay_with(100, 5, ("A", 20), ("B", 30))
        quay.leave("A")
        self.assertEqual(quay.come("C", 20), 0)

    def test_ahead_of_ships_one_metre_too_long(self):
        quay = quay_with(100, 5, ("A", 20), ("B", 30))
        quay.leave("A")
        self.assertEqual(quay.come("C", 21), 60)
        self.assertEqual(quay.ships, [("B", 25, 30), ("C", 60, 21)])

    def with_a_ship_left_between(self, gap):
        quay = quay_with(100, gap, ("A", 10), ("B", 20), ("C", 10))
        quay.leave("B")
        return quay

    def test_where_one_left_a_just_fitting_one(self):
        for gap, place in ((0, 10), (5, 15)):
            with self.subTest(gap=gap):
                quay = self.with_a_ship_left_between(gap)
                self.assertEqual(quay.come("D", 20), place)
                self.assertEqual([ship[0] for ship in quay.ships], ["A", "D", "C"])

    def test_where_one_left_a_shorter_one(self):
        for gap, place in ((0, 10), (5, 15)):
            with self.subTest(gap=gap):
                quay = self.with_a_ship_left_between(gap)
                self.assertEqual(quay.come("D", 12), place)
                self.assertEqual([ship[0] for ship in quay.ships], ["A", "D", "C"])

    def test_where_one_left_a_longer_one(self):
        for gap, place in ((0, 40), (5, 55)):
            with self.subTest(gap=gap):
                quay = self.with_a_ship_left_between(gap)
                self.assertEqual(quay.come("D", 21), place)
                self.assertEqual([ship[0] for ship in quay.ships], ["A", "C", "D"])

    def test_where_one_left_two_short_ones_if_the_gap_stays_between_them(self):
        quay = self.with_a_ship_left_between(0)
        self.assertEqual([quay.come("D", 10), quay.come("E", 10)], [10, 20])
        quay = self.with_a_ship_left_between(5)
        self.assertEqual([quay.come("D", 10), quay.come("E", 6)], [15, 55])
        quay = self.with_a_ship_left_between(5)
        self.assertEqual([quay.come("D", 10), quay.come("E", 5)], [15, 30])

    def test_the_least_of_several_places(self):
        quay = quay_with(100, 0, ("A", 10), ("B", 30), ("C", 10), ("D", 5), ("E", 10))
        quay.leave("D")
        quay.leave("B")
        self.assertEqual(quay.come("F", 5), 10)

    def test_as_long_as_the_quay(self):
        for gap in (0, 5, 1000):
            with self.subTest(gap=gap):
                quay = Quay(100, gap)
                self.assertEqual(quay.come("A", 100), 0)
                self.refused(NoRoom, quay, "come", "B", 1)

    def test_one_metre_longer_than_the_quay(self):
        self.refused(NoRoom, Quay(100, 0), "come", "A", 101)

    def test_the_end_of_the_quay_needs_no_gap(self):
        quay = quay_with(100, 5, ("A", 45))
        self.assertEqual(quay.come("B", 50), 50)
        quay = quay_with(100, 5, ("A", 45))
        self.refused(NoRoom, quay, "come", "B", 51)

    def test_a_quay_of_nought_metres(self):
        for gap in (0, 5):
            self.refused(NoRoom, Quay(0, gap), "come", "A", 1)
            self.refused(NoShip, Quay(0, gap), "come", "A", 0)

    def test_a_quay_of_one_metre(self):
        quay = Quay(1, 0)
        self.assertEqual(quay.come("A", 1), 0)
        self.refused(NoRoom, quay, "come", "B", 1)

    def test_a_gap_longer_than_the_quay(self):
        quay = quay_with(100, 200, ("A", 1))
        self.refused(NoRoom, quay, "come", "B", 1)

    def test_a_very_great_length(self):
        self.refused(NoRoom, Quay(100, 5), "come", "A", GREAT)
        self.refused(NoRoom, Quay(GREAT, 5), "come", "A", GREAT + 1)

    def test_a_very_long_quay(self):
        quay = Quay(GREAT, 3)
        self.assertEqual(quay.come("A", GREAT - 10), 0)
        self.assertEqual(quay.come("B", 7), GREAT - 7)
        self.assertEqual(quay.ships, [("A", 0, GREAT - 10), ("B", GREAT - 7, 7)])
        self.refused(NoRoom, quay, "come", "C", 1)
        self.assertEqual(Quay(GREAT, 3).come("A", GREAT), 0)

    def test_any_text_is_a_name(self):
        quay = Quay(100, 0)
        names = ["", " ", "a", "A", "two words", "7", "\u00e9", "e\u0301", "up"]
        for place, name in enumerate(names):
            self.assertEqual(quay.come(name, 1), place)
        self.assertEqual([ship[0] for ship in quay.ships], names)
        for name in names:
            self.assertEqual(quay.leave(name), name)

    def test_the_same_name_comes_again_behind_its_leaving(self):
        quay = quay_with(100, 0, ("A", 10), ("B", 10))
        quay.leave("A")
        self.assertEqual(quay.come("A", 11), 20)
        self.assertEqual(quay.ships, [("B", 10, 10), ("A", 20, 11)])


class RefusedTest(QuayTest):
    def test_a_length_below_one_metre(self):
        for length in (0, -1, -100, -GREAT):
            with self.subTest(length=length):
                self.refused(NoShip, Quay(100, 5), "come", "A", length)
                self.refused(NoShip, quay_with(100, 5, ("A", 10)), "come", "B", length)

    def test_a_length_of_one_metre_is_none_below_it(self):
        self.assertEqual(Quay(100, 5).come("A", 1), 0)

    def test_no_ship_is_told_ahead_of_twice(self):
        quay = quay_with(100, 5, ("A", 10))
        for length in (0, -1, -GREAT):
            self.refused(NoShip, quay, "come", "A", length)

    def test_no_ship_is_told_ahead_of_no_room(self):
        self.refused(NoShip, quay_with(100, 5, ("A", 100)), "come", "B", 0)
        self.refused(NoShip, quay_with(100, 5, ("A", 100)), "come", "A", 0)

    def test_a_name_that_is_there(self):
        quay = quay_with(100, 5, ("A", 10), ("B", 10), ("C", 10))
        for name in ("A", "B", "C"):
            self.refused(Twice, quay, "come", name, 10)
            self.refused(Twice, quay, "come", name, 1)

    def test_twice_is_told_ahead_of_no_room(self):
        quay = quay_with(100, 5, ("A", 10), ("B", 10))
        for length in (71, 101, GREAT):
            self.refused(Twice, quay, "come", "A", length)
            self.refused(NoRoom, quay, "come", "C", length)

    def test_no_room_though_enough_is_free_in_all(self):
        quay = quay_with(50, 0, ("A", 10), ("B", 10), ("C", 10), ("D", 10), ("E", 10))
        quay.leave("B")
        quay.leave("D")
        self.refused(NoRoom, quay, "come", "F", 11)
        self.assertEqual(quay.come("F", 10), 10)

    def test_no_room_for_the_gap_alone(self):
        quay = quay_with(30, 1, ("A", 9), ("B", 8), ("C", 11))
        self.assertEqual(quay.ships, [("A", 0, 9), ("B", 10, 8), ("C", 19, 11)])
        quay.leave("B")
        self.refused(NoRoom, quay, "come", "D", 9)
        self.assertEqual(quay.come("D", 8), 10)

    def test_behind_a_refusal_the_name_is_still_free(self):
        quay = Quay(100, 5)
        self.refused(NoRoom, quay, "come", "A", 101)
        self.refused(NoShip, quay, "come", "A", 0)
        self.refused(NoShip, quay, "leave", "A")
        self.assertEqual(quay.come("A", 100), 0)


class LeaveTest(QuayTest):
    def test_one_that_is_there(self):
        for name, rest in (("A", ["B", "C"]), ("B", ["A", "C"]), ("C", ["A", "B"])):
            with self.subTest(name=name):
                quay = quay_with(100, 5, ("A", 10), ("B", 20), ("C", 30))
                self.assertEqual(quay.leave(name), name)
                self.assertEqual([ship[0] for ship in quay.ships], rest)

    def test_the_others_stay_where_they_lie(self):
        quay = quay_with(100, 5, ("A", 10), ("B", 20), ("C", 30))
        quay.leave("A")
        self.assertEqual(quay.ships, [("B", 15, 20), ("C", 40, 30)])

    def test_the_last_one(self):
        quay = quay_with(100, 5, ("A", 10))
        self.assertEqual(quay.leave("A"), "A")
        self.assertEqual(quay.ships, [])
        self.assertEqual(quay.come("B", 100), 0)

    def test_one_that_is_not_there(self):
        self.refused(NoShip, Quay(100, 5), "leave", "A")
        quay = quay_with(100, 5, ("A", 10), ("AB", 10))
        for name in ("B", "a", "", "A ", "ABC"):
            self.refused(NoShip, quay, "leave", name)

    def test_the_same_one_twice(self):
        quay = quay_with(100, 5, ("A", 10), ("B", 10))
        self.assertEqual(quay.leave("A"), "A")
        self.refused(NoShip, quay, "leave", "A")
        self.assertEqual(quay.ships, [("B", 15, 10)])

    def test_long_names_that_differ_in_one_letter(self):
        plain = "m" * 30
        names = [plain] + [plain[:at] + "n" + plain[at + 1:] for at in range(30)]
        quay = Quay(100, 0)
        for place, name in enumerate(names):
            self.assertEqual(quay.come(name, 1), place)
        gone = names[1:20]
        for name in gone:
            self.assertEqual(quay.leave(name), name)
            self.refused(NoShip, quay, "leave", name)
        self.assertEqual([ship[0] for ship in quay.ships], [names[0]] + names[20:])
        self.refused(Twice, quay, "come", names[30], 1)
        self.refused(NoShip, quay, "leave", "m" * 29)
        self.refused(NoShip, quay, "leave", "m" * 31)


class MoveUpTest(QuayTest):
    def test_no_ship(self):
        quay = Quay(100, 5)
        self.assertEqual(quay.move_up(), 0)
        self.assertEqual(quay.ships, [])

    def test_ships_that_lie_right_already(self):
        for gap in (0, 5):
            with self.subTest(gap=gap):
                quay = quay_with(100, gap, ("A", 10), ("B", 20), ("C", 30))
                before = list(quay.ships)
                self.assertEqual(quay.move_up(), 0)
                self.assertEqual(quay.ships, before)

    def test_ships_are_moved(self):
        quay = quay_with(100, 0, ("A", 10), ("B", 20), ("C", 30))
        quay.leave("A")
        self.assertEqual(quay.move_up(), 10 + 10)
        self.assertEqual(quay.ships, [("B", 0, 20), ("C", 20, 30)])

    def test_ships_are_moved_with_a_gap(self):
        quay = quay_with(100, 5, ("A", 10), ("B", 20), ("C", 30))
        quay.leave("A")
        self.assertEqual(quay.move_up(), 15 + 15)
        self.assertEqual(quay.ships, [("B", 0, 20), ("C", 25, 30)])

    def test_each_ship_by_metres_of_its_own(self):
        quay = quay_with(100, 2, ("A", 10), ("B", 7), ("C", 10), ("D", 3), ("E", 10))
        quay.leave("B")
        quay.leave("D")
        self.assertEqual(quay.ships, [("A", 0, 10), ("C", 21, 10), ("E", 38, 10)])
        self.assertEqual(quay.move_up(), 0 + 9 + 14)
        self.assertEqual(quay.ships, [("A", 0, 10), ("C", 12, 10), ("E", 24, 10)])

    def test_one_ship_goes_to_nought(self):
        quay = quay_with(100, 5, ("A", 10), ("B", 20))
        quay.leave("A")
        self.assertEqual(quay.move_up(), 15)
        self.assertEqual(quay.ships, [("B", 0, 20)])

    def test_the_second_time_nothing_moves(self):
        quay = quay_with(100, 5, ("A", 10), ("B", 20), ("C", 30))
        quay.leave("B")
        self.assertEqual(quay.move_up(), 25)
        self.assertEqual(quay.move_up(), 0)
        self.assertEqual(quay.ships, [("A", 0, 10), ("C", 15, 30)])

    def test_the_order_is_that_of_the_metres_not_of_the_coming(self):
        quay = quay_with(100, 5, ("A", 10), ("B", 20), ("C", 30))
        quay.leave("A")
        quay.come("Z", 4)
        self.assertEqual(quay.move_up(), 0 + 6 + 6)
        self.assertEqual(quay.ships, [("Z", 0, 4), ("B", 9, 20), ("C", 34, 30)])

    def test_a_ship_that_comes_behind_it(self):
        quay = quay_with(50, 0, ("A", 10), ("B", 10), ("C", 10), ("D", 10), ("E", 10))
        quay.leave("B")
        quay.leave("D")
        self.refused(NoRoom, quay, "come", "F", 20)
        self.assertEqual(quay.move_up(), 10 + 20)
        self.assertEqual(quay.come("F", 20), 30)
        self.assertEqual(quay.ships, [("A", 0, 10), ("C", 10, 10), ("E", 20, 10), ("F", 30, 20)])

    def test_a_ship_that_comes_behind_it_with_a_gap(self):
        quay = quay_with(60, 5, ("A", 10), ("B", 10), ("C", 10))
        quay.leave("A")
        self.assertEqual(quay.move_up(), 30)
        self.assertEqual(quay.come("D", 30), 30)
        self.refused(NoRoom, quay, "come", "E", 1)

    def test_leaving_behind_it_goes_by_the_new_berths(self):
        quay = quay_with(100, 5, ("A", 10), ("B", 20), ("C", 30))
        quay.leave("A")
        quay.move_up()
        self.assertEqual(quay.leave("B"), "B")
        self.assertEqual(quay.ships, [("C", 25, 30)])
        self.assertEqual(quay.come("D", 20), 0)

    def test_on_a_very_long_quay(self):
        quay = quay_with(GREAT, 1, ("A", GREAT - 10), ("B", 4), ("C", 3))
        quay.leave("A")
        self.assertEqual(quay.move_up(), 2 * (GREAT - 9))
        self.assertEqual(quay.ships, [("B", 0, 4), ("C", 5, 3)])


class ShipsTest(QuayTest):
    def test_rows_are_tuples_in_a_list(self):
        quay = quay_with(100, 5, ("A", 10), ("B", 20), ("C", 30))
        quay.leave("A")
        quay.come("D", 3)
        for moved in (False, True):
            if moved:
                quay.move_up()
            self.assertIs(quay.ships.__class__, list)
            for row in quay.ships:
                self.assertIs(row.__class__, tuple)
                self.assertEqual([part.__class__ for part in row], [str, int, int])

    def test_in_the_order_of_the_first_metres(self):
        quay = quay_with(100, 0, ("D", 10), ("C", 10), ("B", 10), ("A", 10))
        quay.leave("D")
        quay.leave("B")
        quay.come("Z", 10)
        quay.come("E", 10)
        self.assertEqual(quay.ships, [("Z", 0, 10), ("C", 10, 10), ("E", 20, 10), ("A", 30, 10)])

    def test_what_was_told_before_stays_as_it_was_told(self):
        quay = quay_with(100, 5, ("A", 10), ("B", 20))
        early = quay.ships
        quay.come("C", 30)
        quay.leave("A")
        quay.move_up()
        self.assertEqual(early, [("A", 0, 10), ("B", 15, 20)])

    def test_two_quays_have_nothing_in_common(self):
        one = Quay(100, 5)
        other = Quay(50, 0)
        self.assertIsNot(one.ships, other.ships)
        one.come("A", 10)
        self.assertEqual(other.ships, [])
        self.assertEqual(other.come("A", 50), 0)
        self.assertEqual(one.come("B", 20), 15)
        one.leave("A")
        self.assertEqual(other.ships, [("A", 0, 50)])
        one.move_up()
        other.leave("A")
        self.assertEqual(one.ships, [("B", 0, 20)])
        self.assertEqual(other.ships, [])
        self.assertEqual((one.length, one.gap, other.length, other.gap), (100, 5, 50, 0))

    def test_five_hundred_ships(self):
        quay = Quay(2500, 2)
        for turn in range(500):
            self.assertEqual(quay.come(f"ship{turn}", 3), 5 * turn)
        self.refused(NoRoom, quay, "come", "more", 1)
        for turn in range(0, 500, 2):
            quay.leave(f"ship{turn}")
        self.assertEqual(quay.move_up(), sum(5 * (2 * turn + 1) - 5 * turn for turn in range(250)))
        self.assertEqual(quay.ships, [(f"ship{2 * turn + 1}", 5 * turn, 3) for turn in range(250)])


class TrialTest(QuayTest):
    """Every short run of deeds on small quays, beside a quay that tries every metre."""

    DEEDS = (
        ("come", "A", 1), ("come", "B", 2), ("come", "C", 3), ("come", "A", 0),
        ("leave", "A"), ("leave", "B"), ("move_up",),
    )

    def both(self, length, gap, deeds):
        quay = Quay(length, gap)
        model = Model(length, gap)
        for deed in deeds:
            answer = tried(getattr(quay, deed[0]), *deed[1:])
            self.assertEqual(answer, getattr(model, deed[0])(*deed[1:]), (length, gap, deeds))
            self.assertEqual(quay.ships, model.ships(), (length, gap, deeds))
            self.assertTrue(keeps_point_two(quay.ships, gap, length), (length, gap, deeds))

    def test_every_run_of_four_deeds(self):
        for length, gap in ((0, 0), (5, 0), (6, 1), (8, 2)):
            for deeds in itertools.product(self.DEEDS, repeat=4):
                self.both(length, gap, deeds)

    def test_long_runs(self):
        # A fixed rule that mixes well enough stands in for chance, so each run is the same.
        state = 1
        for length, gap in ((20, 0), (20, 1), (30, 3), (40, 2)):
            deeds = []
            for turn in range(400):
                state = (state * 1103515245 + 12345) % 2 ** 31
                name = "ABCDEFGH"[state // 2 ** 8 % 8]
                kind = state // 2 ** 12 % 8
                size = state // 2 ** 16 % 9 - 1
                if kind < 4:
                    deeds.append(("come", name, size))
                elif kind < 7:
                    deeds.append(("leave", name))
                else:
                    deeds.append(("move_up",))
            self.both(length, gap, deeds)


if __name__ == "__main__":
    unittest.main()
