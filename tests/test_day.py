import copy
import unittest

from berthline.day import berths, told
from berthline.errors import QuayError
from berthline.quay import Quay

GREAT = 10 ** 12

# Every kind of row with every kind of answer, and the berths behind the whole day.
DAY = [
    ("come Anna 20", "0"),
    ("come Bella 30", "25"),
    ("come Carla 35", "60"),
    ("come Dora 5", "no"),
    ("come Anna 1", "no"),
    ("come Emma 0", "no"),
    ("come Emma -4", "no"),
    ("leave Fanny", "no"),
    ("up", "0"),
    ("leave Bella", "gone"),
    ("leave Bella", "no"),
    ("come Dora 5", "25"),
    ("up", "25"),
    ("come Emma 25", "75"),
    ("leave Anna", "gone"),
    ("come Anna 15", "0"),
]
DAY_ROWS = [row for row, answer in DAY]
DAY_ANSWERS = [answer for row, answer in DAY]
DAY_BERTHS = [("Anna", 0, 15), ("Dora", 25, 5), ("Carla", 35, 35), ("Emma", 75, 25)]


class ToldTest(unittest.TestCase):
    def test_every_kind_of_row_and_answer(self):
        self.assertEqual(told(100, 5, DAY_ROWS), DAY_ANSWERS)

    def test_each_answer_is_a_text(self):
        answers = told(100, 5, DAY_ROWS)
        self.assertIs(answers.__class__, list)
        self.assertEqual({answer.__class__ for answer in answers}, {str})

    def test_a_day_without_rows(self):
        self.assertEqual(told(100, 5, []), [])
        self.assertEqual(told(0, 0, []), [])

    def test_come(self):
        self.assertEqual(told(100, 0, ["come A 10", "come B 20", "come C 1"]), ["0", "10", "30"])
        self.assertEqual(told(100, 5, ["come A 10", "come B 20", "come C 1"]), ["0", "15", "40"])

    def test_leave(self):
        self.assertEqual(told(100, 5, ["come A 10", "leave A", "leave A"]), ["0", "gone", "no"])

    def test_up(self):
        self.assertEqual(told(100, 5, ["up"]), ["0"])
        self.assertEqual(told(100, 5, ["come A 10", "come B 10", "come C 10", "leave A", "up", "up"])[-2:], ["30", "0"])

    def test_a_length_of_nought_or_below(self):
        self.assertEqual(told(100, 5, ["come A 0", "come A -1", "come A -100", "come A 1"]), ["no", "no", "no", "0"])
        self.assertEqual(told(100, 5, [f"come A -{GREAT}"]), ["no"])

    def test_no_room(self):
        self.assertEqual(told(100, 5, ["come A 101", "come A 100", "come B 1"]), ["no", "0", "no"])

    def test_a_name_that_is_there(self):
        self.assertEqual(told(100, 5, ["come A 10", "come A 10", "come B 10"]), ["0", "no", "15"])

    def test_a_refused_row_changes_nothing(self):
        before = ["come A 10", "come B 20", "come C 30", "leave B"]
        behind = ["come D 20", "come E 19", "leave A", "up", "come F 3", "leave F", "leave B"]
        plain = told(100, 5, before + behind)
        for refused in ("come A 1", "come D 0", "come D -7", "come D 26", "come A 0", "leave B", "leave D", f"come D {GREAT}"):
            with self.subTest(refused=refused):
                answers = told(100, 5, before + [refused] + behind)
                self.assertEqual(answers, plain[:4] + ["no"] + plain[4:])
                self.assertEqual(berths(100, 5, before + [refused] + behind), berths(100, 5, before + behind))

    def test_what_the_rows_behind_a_refused_one_answer(self):
        rows = ["come A 60", "come B 50", "come B 40", "leave C", "leave A", "come A 70", "up", "come A 60"]
        self.assertEqual(told(100, 0, rows), ["0", "no", "60", "no", "gone", "no", "60", "40"])

    def test_a_very_long_quay_and_a_very_great_length(self):
        rows = [f"come A {GREAT}", f"come A {GREAT - 1}", "come B 2", "come B 1", "leave A", "up"]
        self.assertEqual(told(GREAT, 0, rows), ["0", "no", "no", "no", "gone", "0"])
        rows = [f"come A {GREAT - 8}", "come B 3", "leave A", "up", f"come C {GREAT - 8}"]
        self.assertEqual(told(GREAT, 5, rows), ["0", str(GREAT - 3), "gone", str(GREAT - 3), "8"])

    def test_a_quay_of_nought_metres(self):
        self.assertEqual(told(0, 0, ["come A 1", "up", "leave A"]), ["no", "0", "no"])

    def test_names_that_look_like_deeds_or_numbers(self):
        rows = ["come up 10", "come come 10", "come leave 10", "come 7 10", "leave come", "leave up", "up", "leave 7"]
        self.assertEqual(told(100, 0, rows), ["0", "10", "20", "30", "gone", "gone", "40", "gone"])

    def test_names_differ_by_every_letter(self):
        one = "m" * 30
        other = "m" * 29 + "n"
        rows = [f"come {one} 10", f"leave {other}", f"come {other} 10", "come M 1", "come m 1", f"leave {one}"]
        self.assertEqual(told(100, 0, rows), ["0", "no", "10", "20", "21", "gone"])

    def test_rows_that_tell_no_deed_are_refused(self):
        for row in (
            "", " ", "come", "come B", "come B x", "come B 1 2", "come B 1.5", "leave", "leave A A", "up A", "up up",
            "Up", "COME B 1", "move", "sail A", "A",
        ):
            with self.subTest(row=row):
                rows = ["come Z 5", "come A 10", "leave Z", row, "up", "come B 1"]
                self.assertEqual(told(100, 0, rows), ["0", "5", "gone", "no", "5", "10"])

    def test_each_day_begins_without_ships(self):
        for turn in range(2):
            self.assertEqual(told(100, 5, ["come A 100"]), ["0"])
            self.assertEqual(berths(100, 5, ["come A 100"]), [("A", 0, 100)])

    def test_arguments_bear_the_names_of_the_interface(self):
        self.assertEqual(told(length=100, gap=5, rows=["come A 1", "come B 1"]), ["0", "6"])
        self.assertEqual(berths(length=100, gap=5, rows=["come A 1", "come B 1"]), [("A", 0, 1), ("B", 6, 1)])


class BerthsTest(unittest.TestCase):
    def test_behind_a_whole_day(self):
        self.assertEqual(berths(100, 5, DAY_ROWS), DAY_BERTHS)

    def test_behind_each_row_of_a_day(self):
        behind = {
            0: [],
            1: [("Anna", 0, 20)],
            3: [("Anna", 0, 20), ("Bella", 25, 30), ("Carla", 60, 35)],
            9: [("Anna", 0, 20), ("Bella", 25, 30), ("Carla", 60, 35)],
            11: [("Anna", 0, 20), ("Carla", 60, 35)],
            12: [("Anna", 0, 20), ("Dora", 25, 5), ("Carla", 60, 35)],
            13: [("Anna", 0, 20), ("Dora", 25, 5), ("Carla", 35, 35)],
            15: [("Dora", 25, 5), ("Carla", 35, 35), ("Emma", 75, 25)],
        }
        for count, rows in behind.items():
            with self.subTest(count=count):
                self.assertEqual(berths(100, 5, DAY_ROWS[:count]), rows)

    def test_a_day_without_rows(self):
        self.assertEqual(berths(100, 5, []), [])

    def test_all_have_left(self):
        self.assertEqual(berths(100, 5, ["come A 1", "come B 2", "leave A", "leave B"]), [])

    def test_all_are_refused(self):
        self.assertEqual(berths(10, 5, ["come A 0", "come B 11", "leave C", "come D -1"]), [])

    def test_rows_are_tuples_in_a_list_in_order(self):
        rows = berths(100, 0, ["come C 10", "come B 10", "come A 10", "leave C", "come D 9"])
        self.assertEqual(rows, [("D", 0, 9), ("B", 10, 10), ("A", 20, 10)])
        self.assertIs(rows.__class__, list)
        for row in rows:
            self.assertIs(row.__class__, tuple)
            self.assertEqual([part.__class__ for part in row], [str, int, int])

    def test_two_days_have_nothing_in_common(self):
        one = berths(100, 5, ["come A 10"])
        other = berths(100, 5, ["come A 10"])
        one.append(("B", 50, 1))
        self.assertEqual(other, [("A", 0, 10)])
        self.assertEqual(berths(100, 5, ["come A 10"]), [("A", 0, 10)])
        self.assertEqual(berths(100, 5, []), [])


class ManyDigitsTest(unittest.TestCase):
    """Numbers of more digits than int and str take; compared by ==, as a failure could not show them."""

    QUAY = 10 ** 9000

    def test_a_first_metre(self):
        for count in (599, 600, 601, 4299, 4300, 4301, 8000):
            with self.subTest(count=count):
                answers = told(self.QUAY, 10 ** count, ["come A 1", "come B 1", "come C 1"])
                behind = "0" * (count - 1)
                self.assertTrue(answers == ["0", "1" + behind + "1", "2" + behind + "2"])

    def test_the_metres_moved(self):
        rows = ["come A 1", "come B 1", "come C 1", "leave A", "up", "up"]
        answers = told(self.QUAY, 10 ** 5000, rows)
        noughts = "0" * 4999
        self.assertTrue(answers[2:] == ["2" + noughts + "2", "gone", "2" + noughts + "2", "0"])

    def test_a_length(self):
        for count in (599, 600, 601, 4299, 4300, 4301, 8000):
            with self.subTest(count=count):
                rows = ["come A 1" + "0" * count, "come B 1", "leave A", "up"]
                self.assertTrue(told(self.QUAY, 0, rows) == ["0", rows[0][7:], "gone", rows[0][7:]])
                self.assertTrue(berths(self.QUAY, 0, rows[:2]) == [("A", 0, 10 ** count), ("B", 10 ** count, 1)])
                self.assertTrue(berths(self.QUAY, 0, rows) == [("B", 0, 1)])

    def test_a_length_that_just_fits_and_one_metre_more(self):
        nines = "9" * 5000
        self.assertEqual(told(10 ** 5000 - 1, 7, ["come A " + nines]), ["0"])
        self.assertEqual(told(10 ** 5000 - 2, 7, ["come A " + nines, "come A 5"]), ["no", "0"])
        self.assertEqual(told(100, 5, ["come A " + nines, "come A 5"]), ["no", "0"])

    def test_berths(self):
        rows = berths(self.QUAY, 10 ** 5000, ["come A 1", "come B " + "3" * 4800, "come C 2"])
        size = 10 ** 4800 // 3
        self.assertTrue(rows == [("A", 0, 1), ("B", 10 ** 5000 + 1, size), ("C", 2 * 10 ** 5000 + 1 + size, 2)])

    def test_noughts_ahead_of_a_length(self):
        self.assertEqual(berths(100, 5, ["come A " + "0" * 5000 + "7"]), [("A", 0, 7)])
        self.assertEqual(berths(100, 5, ["come A +" + "0" * 5000 + "7"]), [("A", 0, 7)])

    def test_a_length_of_nought_or_below(self):
        for word in ("0" * 5000, "-" + "0" * 5000, "-" + "9" * 5000, "-" + "0" * 5000 + "7"):
            self.assertEqual(told(self.QUAY, 5, ["come A " + word, "come A 5"]), ["no", "0"])

    def test_a_name_that_is_there(self):
        self.assertEqual(told(self.QUAY, 5, ["come A 1", "come A " + "9" * 5000]), ["0", "no"])

    def test_a_word_that_is_no_number(self):
        nines = "9" * 4500
        for word in (
            nines + "x", "x" + nines, nines + "x" + nines, nines + ".0", nines + "-" + nines, "--" + nines,
            nines + "+", nines + "__" + nines, "_" + nines, nines + "_", "0x" + nines, nines + "e5",
        ):
            with self.subTest(head=word[:3], tail=word[-3:]):
                rows = ["come A " + word, "come A " + nines + " 1", "come A 5"]
                self.assertEqual(told(self.QUAY, 5, rows), ["no", "no", "0"])
                self.assertEqual(berths(self.QUAY, 5, rows), [("A", 0, 5)])


class HandedInTest(unittest.TestCase):
    def test_the_rows_are_the_same_afterwards(self):
        rows = list(DAY_ROWS)
        for day in (told, berths):
            day(100, 5, rows)
            self.assertEqual(rows, DAY_ROWS)

    def test_the_answers_are_another_list(self):
        rows = list(DAY_ROWS)
        answers = told(100, 5, rows)
        answers.clear()
        self.assertEqual(rows, DAY_ROWS)


class LongDayTest(unittest.TestCase):
    def test_five_hundred_ships_come(self):
        rows = [f"come S{turn} 3" for turn in range(500)]
        self.assertEqual(told(2498, 2, rows), [str(5 * turn) for turn in range(500)])
        self.assertEqual(berths(2498, 2, rows), [(f"S{turn}", 5 * turn, 3) for turn in range(500)])

    def test_five_hundred_rows_of_every_kind(self):
        rows = []
        for turn in range(100):
            rows += [f"come A{turn} 4", f"come B{turn} 2", f"leave A{turn}", "up", f"leave A{turn}"]
        self.assertEqual(len(rows), 500)
        kept = copy.copy(rows)
        answers = told(1000, 1, rows)
        expected = []
        for turn in range(100):
            # turn ships of two metres with a gap of one lie at the head when A comes.
            expected += [str(3 * turn), str(3 * turn + 5), "gone", "5", "no"]
        self.assertEqual(answers, expected)
        self.assertEqual(berths(1000, 1, rows), [(f"B{turn}", 3 * turn, 2) for turn in range(100)])
        self.assertEqual(rows, kept)

    def test_a_day_answers_like_the_quay(self):
        rows = []
        expected = []
        quay = Quay(60, 2)
        for turn in range(500):
            name = f"S{turn * 7 % 11}"
            if turn % 13 == 12:
                rows.append("up")
                expected.append(str(quay.move_up()))
            elif turn % 5 < 3:
                size = turn * 5 % 17 - 1
                rows.append(f"come {name} {size}")
                try:
                    expected.append(str(quay.come(name, size)))
                except QuayError:
                    expected.append("no")
            else:
                rows.append(f"leave {name}")
                try:
                    quay.leave(name)
                    expected.append("gone")
                except QuayError:
                    expected.append("no")
        self.assertEqual(told(60, 2, rows), expected)
        self.assertEqual(berths(60, 2, rows), quay.ships)
        self.assertIn("no", expected)
        self.assertIn("gone", expected)


if __name__ == "__main__":
    unittest.main()
