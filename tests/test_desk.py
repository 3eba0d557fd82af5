import random
import re
import unittest

from firsthit.desk import play
from firsthit.errors import HitError
from firsthit.scenes import Scene
from firsthit.surfaces import is_closed, place_of, six_volume

FOUR_SIDES = (
    "triangle 0 0 0 0 6 0 6 0 0",
    "triangle 0 0 0 6 0 0 0 0 6",
    "triangle 6 0 0 0 6 0 0 0 6",
    "triangle 0 0 0 0 0 6 0 6 0",
)
BAD = "refused: BadRow"
NO_SHAPE = "refused: NoShape"
NO_RAY = "refused: NoRay"
NOT_CLOSED = "refused: NotClosed"
# A row of each sort that is well formed, with how many numbers stand behind its word.
SORTS = (
    ("box 0 0 0 4 4 4", 6),
    ("triangle 0 0 0 4 0 0 0 4 0", 9),
    ("drop 0", 1),
    ("size", 0),
    ("first 1 1 5 0 0 -2", 6),
    ("every 1 1 5 0 0 -2", 6),
    ("free 1 1 5 0 0 -2", 6),
    ("closed", 0),
    ("volume", 0),
    ("place 1 1 1", 3),
)
NUMBER = "(?:0|-?[1-9][0-9]{0,8})"
IS_ROW = re.compile("|".join(row.split(" ")[0] + f"(?: {NUMBER})" + "{" + str(count) + "}" for row, count in SORTS))
# Signs that a text may have: from the blank to "~", but the percent sign.
SIGNS = [chr(code) for code in range(32, 127) if code != 37]
# Numbers as they may not stand.
BAD_NUMBERS = (
    "-0", "00", "01", "007", "-01", "-00", "+1", "+0", "-", "--1", "1-", "-+1", "1234567890", "-1234567890",
    "0123456789", "0000000000", "1000000000", "x", "a", "A", "1a", "a1", "1.0", "1.", ".1", "1e3", "1_0", "_1", "0x1",
    "1/1", "1,", ",", "'1'", "(1)", "~", "!", "*", "O", "l", "none", "box",
)


class Playing(unittest.TestCase):
    def check(self, rows, answers):
        self.assertEqual(play("\n".join(rows)), answers)

    def check_last(self, rows, *answers):
        self.assertEqual(play("\n".join(rows))[-len(answers):], list(answers))


class Shapes(Playing):
    def test_numbers_of_shapes(self):
        self.check(("box 0 0 0 4 4 4", "triangle 0 0 0 4 0 0 0 4 0", "box 1 1 1 1 1 1"), ["0", "1", "2"])

    def test_size(self):
        self.check(("size", "box 0 0 0 4 4 4", "size", "triangle 1 1 1 1 1 1 1 1 1", "size"), ["0", "0", "1", "1", "2"])

    def test_flat_boxes_and_triangles_on_a_line(self):
        self.check(("box 0 0 3 4 4 3", "box 0 2 3 4 2 3", "box -1 -1 -1 -1 -1 -1", "triangle 0 0 0 2 2 2 1 1 1",
                    "triangle 5 5 5 5 5 5 5 5 5"), ["0", "1", "2", "3", "4"])

    def test_a_box_whose_corners_stand_the_wrong_way(self):
        for row in ("box 0 0 0 -1 4 4", "box 0 0 0 4 -1 4", "box 0 0 0 4 4 -1", "box 4 4 4 0 0 0", "box 1 0 0 0 9 9",
                    "box -999999998 0 0 -999999999 0 0"):
            with self.subTest(row=row):
                self.check((row, "size"), [NO_SHAPE, "0"])
                self.check(("box 0 0 0 1 1 1", row, "size", "every -1 0 0 1 0 0"), ["0", NO_SHAPE, "1", "1 0"])

    def test_corners_by_their_order(self):
        self.check_last(("box 1 20 300 4 50 600", "first 0 20 300 1 0 0"), "1 0")
        self.check_last(("box 1 20 300 4 50 600", "first 1 0 300 0 1 0"), "20 0")
        self.check_last(("box 1 20 300 4 50 600", "first 1 20 0 0 0 1"), "300 0")
        self.check_last(("box 1 20 300 4 50 600", "first 9 50 600 -1 0 0"), "5 0")
        self.check_last(("box 1 20 300 4 50 600", "first 4 90 600 0 -1 0"), "40 0")
        self.check_last(("box 1 20 300 4 50 600", "first 4 50 700 0 0 -1"), "100 0")

    def test_drop(self):
        rows = ["box 0 0 0 1 1 1", "box 5 0 0 6 1 1", "triangle 9 0 0 9 1 0 9 0 1"]
        three = ["0", "1", "2"]
        along = "every -1 0 0 1 0 0"
        self.check(rows + [along], three + ["1 0, 6 1, 10 2"])
        self.check(rows + ["drop 0", along, "size"], three + ["ok", "6 0, 10 1", "2"])
        self.check(rows + ["drop 1", along, "size"], three + ["ok", "1 0, 10 1", "2"])
        self.check(rows + ["drop 2", along, "size"], three + ["ok", "1 0, 6 1", "2"])
        self.check(rows + ["drop 0", "drop 0", "drop 0", along, "size"], three + ["ok"] * 3 + ["", "0"])
        self.check(rows + ["drop 1", "box 2 0 0 3 1 1", along], three + ["ok", "2", "1 0, 3 2, 10 1"])

    def test_a_number_to_drop_that_none_has(self):
        self.check(("drop 0",), [NO_SHAPE])
        self.check(("drop -1",), [NO_SHAPE])
        for number in ("2", "3", "24", "999999999", "-1", "-2", "-3", "-999999999"):
            with self.subTest(number=number):
                self.check(("box 0 0 0 1 1 1", "box 5 0 0 6 1 1", f"drop {number}", "size", "every -1 0 0 1 0 0"),
                           ["0", "1", NO_SHAPE, "2", "1 0, 6 1"])

    def test_no_more_than_24(self):
        rows = [f"box {number} 0 0 {number} 1 1" if number % 2 else f"triangle {number} 0 0 1 1 1 2 2 2"
                for number in range(24)]
        told = [str(number) for number in range(24)]
        for more in ("box 0 0 0 1 1 1", "triangle 0 0 0 1 1 1 2 2 2", "box 1 1 1 0 0 0"):
            with self.subTest(more=more):
                self.check(rows + ["size", more, "size"], told + ["24", NO_SHAPE, "24"])
                self.check(rows + [more, more, "drop 24", "drop 23", "size"], told + [NO_SHAPE] * 3 + ["ok", "23"])
        self.check(rows + ["box 1 1 1 0 0"], told + [BAD])
        # Taken again once one is gone, and then no more again.
        one, other = "box 7 7 7 7 7 7", "box 8 8 8 8 8 8"
        self.check(rows + [one, "drop 3", one, other, "size", "first 7 7 9 0 0 -1"],
                   told + [NO_SHAPE, "ok", "23", NO_SHAPE, "24", "2 23"])


class Rays(Playing):
    SCENE = ["box 0 0 0 4 4 4", "triangle 6 0 0 6 4 0 6 0 4", "box 10 0 0 12 4 4"]

    def test_first(self):
        for row, answer in (
            ("first -1 1 1 2 0 0", "1/2 0"),
            ("first -1 1 1 1 0 0", "1 0"),
            ("first 5 1 1 1 0 0", "1 1"),
            ("first 5 1 1 3 0 0", "1/3 1"),
            ("first 13 1 1 -2 0 0", "1/2 2"),
            ("first 20 1 1 -3 0 0", "8/3 2"),
            ("first 1 1 1 0 0 7", "0 0"),
            ("first 5 1 1 0 1 0", "none"),
            ("first 5 1 1 0 -1 0", "none"),
            ("first -999999999 0 0 999999999 0 0", "1 0"),
            ("first -999999999 0 0 999999998 0 0", "999999999/999999998 0"),
        ):
            with self.subTest(row=row):
                self.check_last(self.SCENE + [row], answer)

    def test_every(self):
        for row, answer in (
            ("every -1 1 1 2 0 0", "1/2 0, 7/2 1, 11/2 2"),
            ("every 13 1 1 -1 0 0", "1 2, 7 1, 9 0"),
            ("every 5 3 3 1 0 0", "5 2"),
            ("every 5 1 1 0 1 0", ""),
            ("every 2 2 2 2 0 0", "0 0, 2 1, 4 2"),
        ):
            with self.subTest(row=row):
                self.check_last(self.SCENE + [row], answer)

    def test_like_times_by_numbers(self):
        wall = "box 4 -9 -9 4 9 9"
        self.check([wall, wall, "box 3 0 0 3 0 0", wall, "first 0 0 0 8 0 0", "every 0 0 0 8 0 0"],
                   ["0", "1", "2", "3", "3/8 2", "3/8 2, 1/2 0, 1/2 1, 1/2 3"])
        self.check([wall, wall, "first 0 0 0 8 0 0"], ["0", "1", "1/2 0"])

    def test_an_empty_scene(self):
        self.check(("first 0 0 0 1 0 0", "every 0 0 0 1 0 0", "free 0 0 0 1 0 0", "free 0 0 0 0 0 0"),
                   ["none", "", "yes", "yes"])

    def test_free(self):
        for row, answer in (
            ("free 5 1 1 7 1 1", "no"),
            ("free 5 1 1 6 1 1", "no"),
            ("free 6 1 1 7 1 1", "no"),
            ("free 5 1 1 5 9 9", "yes"),
            ("free 5 2 3 9 2 3", "yes"),
            ("free 5 2 3 10 2 3", "no"),
            ("free -5 2 3 -1 2 3", "yes"),
            ("free -5 2 3 0 2 3", "no"),
            ("free 2 2 2 2 2 2", "no"),
            ("free 4 4 4 4 4 4", "no"),
            ("free 5 5 5 5 5 5", "yes"),
            ("free 0 0 0 0 0 0", "no"),
        ):
            with self.subTest(row=row):
                self.check_last(self.SCENE + [row], answer)

    def test_a_way_of_noughts(self):
        for scene in ([], self.SCENE):
            for start in ("1 1 1", "99 99 99", "-1 0 0", "0 0 0"):
                for word in ("first", "every"):
                    row = f"{word} {start} 0 0 0"
                    with self.subTest(scene=scene, row=row):
                        self.check_last(scene + [row, "size"], NO_RAY, str(len(scene)))
        # What is no row at all is that ahead of it.
        for row in ("first 1 1 1 0 0", "first 1 1 1 0 0 0 0", "every 1 1 x 0 0 0", "first 1 1 1 0 0 -0",
                    "First 1 1 1 0 0 0"):
            self.check((row,), [BAD])
        for way in ("0 0 1", "0 -1 0", "1 0 0"):
            self.check_last(self.SCENE + [f"first 1 1 1 {way}"], "0 0")

    def test_numbers_below_nought_and_of_nine_figures(self):
        self.check(("box -999999999 -3 -2 -999999998 -1 0", "first 999999999 -2 -1 -999999999 0 0",
                    "every -999999999 -9 -2 0 1 0"), ["0", "1999999997/999999999 0", "6 0"])
        self.check(("triangle 999999999 0 0 999999999 9 0 999999999 0 9", "first -999999999 1 1 4 0 0"),
                   ["0", "999999999/2 0"])

    def test_against_the_scene_s_own_answers(self):
        chance = random.Random(40)
        for turn in range(60):
            scene, rows, answers = Scene([]), [], []
            for number in range(24):
                corners = [tuple(chance.randint(-4, 4) for place in range(3)) for corner in range(3)]
                shape = ("triangle",) + tuple(corners)
                if chance.randint(0, 1):
                    shape = ("box", tuple(map(min, *corners)), tuple(map(max, *corners)))
                rows.append(" ".join([shape[0]] + [str(number) for corner in shape[1:] for number in corner]))
                answers.append(str(number))
                scene = scene.with_shape(shape)
                one, other = corners[0], tuple(chance.randint(-4, 4) for place in range(3))
                if other == (0, 0, 0):
                    continue
                ray = ((one[2], one[0], one[1]), other)
                words = " ".join(str(number) for number in ray[0] + ray[1])
                texts = [(f"{top} {number}" if under == 1 else f"{top}/{under} {number}")
                         for (top, under), number in scene.every(ray)]
                rows += [f"first {words}", f"every {words}", f"free {words}"]
                answers += [(texts + ["none"])[0], ", ".join(texts), "yes" if scene.is_free(*ray) else "no"]
            self.check(rows, answers)


class Surfaces(Playing):
    def test_closed(self):
        self.check(("closed",), ["yes"])
        self.check_last(FOUR_SIDES + ("closed",), "yes")
        for place in range(4):
            self.check_last(FOUR_SIDES + ("closed", f"drop {place}", "closed", FOUR_SIDES[place], "closed"),
                            "yes", "ok", "no", "3", "yes")
        self.check_last(FOUR_SIDES + (FOUR_SIDES[0], "closed"), "no")

    def test_volume_closed_or_not(self):
        self.check(("volume",), ["0"])
        self.check_last(FOUR_SIDES + ("volume",), "216")
        self.check(FOUR_SIDES[2:3] + ("volume", "closed"), ["0", "216", "no"])
        self.check(("triangle 1 0 0 0 0 1 0 1 0", "volume", "triangle 2 3 5 7 11 13 17 19 23", "volume"),
                   ["0", "-1", "1", "-79"])

    def test_place(self):
        self.check(("place 0 0 0",), ["outside"])
        for row, answer in (
            ("place 1 1 1", "within"),
            ("place 2 2 2", "on"),
            ("place 3 0 0", "on"),
            ("place 0 0 0", "on"),
            ("place 2 2 3", "outside"),
            ("place -1 1 1", "outside"),
            ("place 7 -1 0", "outside"),
            ("place -999999999 0 0", "outside"),
            ("place 1 2 -1", "outside"),
            ("place 1 4 0", "on"),
        ):
            with self.subTest(row=row):
                self.check_last(FOUR_SIDES + (row,), answer)
        self.check_last(FOUR_SIDES + FOUR_SIDES + ("place 1 1 1",), "within")

    def test_not_closed_whatever_the_point(self):
        for point in ("1 1 1", "2 2 2", "0 0 0", "9 9 9"):
            with self.subTest(point=point):
                self.check_last(FOUR_SIDES + ("drop 0", f"place {point}", "size", FOUR_SIDES[0], "place 1 1 1"),
                                NOT_CLOSED, "3", "3", "within")

    def test_boxes_are_no_part_of_it(self):
        box = "box 0 0 0 3 3 3"
        self.check((box, "closed", "volume", "place 1 1 1", "place 3 3 3"), ["0", "yes", "0", "outside", "outside"])
        rows = [box] + [row for side in FOUR_SIDES for row in (side, box)]
        self.check_last(rows + ["closed", "volume", "place 1 1 1", "place 2 2 3", "place 2 2 2"],
                        "yes", "216", "within", "outside", "on")

    def test_against_the_functions(self):
        chance = random.Random(41)
        told = []
        for turn in range(200):
            a, b, c, d = [tuple(chance.randint(-3, 3) for place in range(3)) for corner in range(4)]
            triangles = [(a, c, b), (a, b, d), (b, c, d), (a, d, c)][:4 if turn % 4 else 3]
            rows = [" ".join(["triangle"] + [str(number) for corner in triangle for number in corner])
                    for triangle in triangles]
            point = tuple(chance.randint(-2, 2) for place in range(3))
            try:
                place = ("outside", "on", "within")[place_of(point, triangles) + 1]
            except HitError:
                place = NOT_CLOSED
            told.append(place)
            self.check_last(rows + ["closed", "volume", "place " + " ".join(map(str, point))],
                            "yes" if is_closed(triangles) else "no", str(six_volume(triangles)), place)
        self.assertEqual(set(told), {"outside", "on", "within", NOT_CLOSED})


class Rows(Playing):
    def test_a_text_of_nothing(self):
        self.assertEqual(play(""), [])
        self.assertEqual(play("\n"), [])
        self.assertEqual(play("\n\n\n"), [])

    def test_rows_of_blanks_and_of_nothing_are_passed_over(self):
        self.assertEqual(play(" "), [])
        self.assertEqual(play("     "), [])
        self.assertEqual(play("  \n\n \nsize\n   \n\nsize\n"), ["0", "0"])
        self.assertEqual(play("size\n"), ["0"])
        self.assertEqual(play("\nsize"), ["0"])
        self.assertEqual(play("size\n\nvolume\n "), ["0", "0"])

    def test_another_word(self):
        for row in ("ball", "ball 0 0 0 4 4 4", "boxes 0 0 0 4 4 4", "bo 0 0 0 4 4 4", "Box 0 0 0 4 4 4", "SIZE",
                    "Size", "sizes", "siz", "Triangle 0 0 0 4 0 0 0 4 0", "dRop 0", "fiRst 0 0 0 1 0 0",
                    "EVERY 0 0 0 1 0 0", "Free 0 0 0 1 0 0", "Closed", "volumE", "Place 1 1 1", "seen",
                    "with 0 0 0 4 4 4", "0", "-1", "none", "ok", "refused: BadRow", "#", "size;", "size,", "size.", "~",
                    "0 0 0 4 4 4 box", "get", "keys"):
            with self.subTest(row=row):
                self.check((row, "size"), [BAD, "0"])

    def test_one_sign_alone(self):
        for sign in SIGNS[1:]:
            with self.subTest(sign=sign):
                self.check((sign, sign * 3, "size"), [BAD, BAD, "0"])

    def test_too_few_and_too_many_words(self):
        for row, count in SORTS:
            words = row.split(" ")
            self.assertEqual(len(words), count + 1)
            for length in range(1, 15):
                if length == count + 1:
                    continue
                short = " ".join((words + ["1"] * 14)[:length])
                with self.subTest(row=short):
                    self.check(("box 0 0 0 1 1 1", short, "size"), ["0", BAD, "1"])

    def test_each_sort_is_a_row(self):
        for row, count in SORTS:
            with self.subTest(row=row):
                self.assertNotIn(BAD, play("box 0 0 0 1 1 1\n" + row))

    def test_blanks_ahead_behind_and_doubled(self):
        for row, count in SORTS:
            wrong = [" " + row, row + " ", "  " + row, row + "  ", " " + row + " "]
            wrong += [row[:place] + " " + row[place:] for place, sign in enumerate(row) if sign == " "]
            # Doubled blanks do not stand in for a number either.
            if count:
                wrong += [row.rpartition(" ")[0] + " ", row.partition(" ")[0] + "  " + " ".join(row.split(" ")[2:])]
            for text in wrong:
                with self.subTest(row=text):
                    self.check(("box 0 0 0 1 1 1", text, "size"), ["0", BAD, "1"])

    def test_numbers_as_they_may_not_stand(self):
        for row, count in SORTS:
            words = row.split(" ")
            for place in range(1, count + 1):
                for number in BAD_NUMBERS:
                    text = " ".join(words[:place] + [number] + words[place + 1:])
                    if play("box 0 0 0 1 1 1\n" + text + "\nsize") != ["0", BAD, "1"]:
                        self.fail(text)

    def test_numbers_as_they_may_stand(self):
        for number in ("0", "1", "9", "10", "-1", "-9", "-10", "100", "-100", "123456789", "-123456789", "999999999",
                       "-999999999", "100000000", "-100000000"):
            with self.subTest(number=number):
                point = f"{number} 5 5"
                self.check((f"box {point} {point}", f"first {number} 5 9 0 0 -1", f"free {point} {point}",
                            f"place {point}"), ["0", "4 0", "no", "outside"])
                self.check((f"triangle {number} 0 0 0 1 0 0 0 1", "volume"), ["0", number])

    def test_rows_with_a_sign_changed(self):
        chance = random.Random(42)
        told = []
        for turn in range(6000):
            row = chance.choice(SORTS)[0]
            for change in range(chance.randint(1, 2)):
                place = chance.randint(0, len(row))
                signs = chance.choice((SIGNS, "0123456789- ", [""]))
                row = row[:place] + chance.choice(signs) + row[place + chance.randint(0, 1):]
            if row.strip(" "):
                told.append(IS_ROW.fullmatch(row) is not None)
                if (play(row) != [BAD]) != told[-1]:
                    self.fail(row)
        self.assertGreater(min(told.count(True), told.count(False)), 500)

    def test_bad_row_ahead_of_all_else(self):
        full = ["box 0 0 0 1 1 1"] * 24
        self.check_last(full + ["box 0 0 0 1 1 01", "box 4 4 4 0 0 -0", "drop 024", "triangle 0 0 0"], *[BAD] * 4)
        self.check(("box 4 4 4 0 0 00", "first 0 0 00 0 0 0", "triangle 0 0 0 1 0 0 0 1 0", "place 0 0 +1",
                    "place 0 0"), [BAD, BAD, "0", BAD, BAD])

    def test_behind_each_refusal_the_scene_is_as_it_was(self):
        looks = ["size", "every -9 1 1 1 0 0", "closed", "volume", "free 5 5 5 6 6 6"]
        rows = list(FOUR_SIDES[:3]) + ["box 2 0 0 3 3 3"]
        before = play("\n".join(rows + looks))[4:]
        for refused, answer in (("box 1 1 1 0 0 0", NO_SHAPE), ("drop 4", NO_SHAPE), ("drop -1", NO_SHAPE),
                                ("first 1 1 1 0 0 0", NO_RAY), ("every 1 1 1 0 0 0", NO_RAY),
                                ("place 1 1 1", NOT_CLOSED), ("box 1 1 1", BAD), ("drop", BAD), ("drop 00", BAD),
                                ("triangle 0 0 0 0 0 6 0 6 -0", BAD), ("clear", BAD)):
            with self.subTest(refused=refused):
                self.assertEqual(play("\n".join(rows + [refused] + looks))[4:], [answer] + before)
                self.assertEqual(play("\n".join(rows + [refused] * 3 + looks))[4:], [answer] * 3 + before)

    def test_two_desks_know_nothing_of_each_other(self):
        one = play("box 0 0 0 1 1 1\nsize")
        self.assertEqual(play("size\nfirst -1 0 0 1 0 0\nclosed"), ["0", "none", "yes"])
        self.assertEqual(play("box 0 0 0 1 1 1\nsize"), one)
        self.assertEqual(play("triangle 0 0 0 1 0 0 0 1 0\nclosed"), ["0", "no"])
        self.assertEqual(play("closed\nbox 0 0 0 1 1 1"), ["yes", "0"])

    def test_kinds_of_what_is_told_and_that_it_is_the_asker_s_own(self):
        text = "\n".join(row for row, count in SORTS)
        told = play(text)
        self.assertIs(type(told), list)
        self.assertEqual({type(answer) for answer in told}, {str})
        before = list(told)
        told.clear()
        self.assertEqual(play(text), before)
        nothing = play("")
        nothing.append("mine")
        self.assertEqual(play(""), [])


if __name__ == "__main__":
    unittest.main()
