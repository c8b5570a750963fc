"""Lines: webs written as texts and read back, and lines that are refused."""

import random
import unittest

from cornerhunt.errors import BadLine
from cornerhunt.notes import web_lines, web_of
from cornerhunt.webs import Web
from made_webs import all_told, changed, every_web, mixed_webs, path, web_with
from refusals import RefusalCase
from wrong_kinds import great_numbers, no_numbers


class Text(str):
    """No plain text, though it says so."""

    def split(self, *told):
        raise RuntimeError("a refused thing was used")


def no_texts():
    """Pairs of a name and a thing that is no text."""
    whole = [("nought", 0), ("one", 1)] + great_numbers()
    return whole + [(name, thing) for name, thing in no_numbers() if type(thing) is not str]


class WriteTest(unittest.TestCase):
    def test_one_point(self):
        self.assertEqual(web_lines(Web(1)), ["points 1"])

    def test_ties_rise_as_numbers(self):
        web = web_with(12, [(11, 10), (10, 2), (2, 1), (9, 2), (0, 11), (3, 0)])
        lines = ["points 12", "0 3", "0 11", "1 2", "2 9", "2 10", "10 11"]
        self.assertEqual(web_lines(web), lines)

    def test_kinds(self):
        told = web_lines(path(3))
        self.assertIs(type(told), list)
        self.assertEqual({type(line) for line in told}, {str})

    def test_by_keyword(self):
        self.assertEqual(web_lines(web=path(2)), ["points 2", "0 1"])

    def test_all_webs_of_the_tests(self):
        for web in mixed_webs(12):
            with self.subTest(many=web.many(), ties=web.ties()):
                ties = [" ".join((str(low), str(high))) for low, high in web.ties()]
                self.assertEqual(web_lines(web), ["points " + str(web.many())] + ties)

    def test_the_web_stays_as_it_is(self):
        web = path(5)
        before = all_told(web)
        web_lines(web).clear()
        self.assertEqual(all_told(web), before)

    def test_lines_stay_when_the_web_changes(self):
        web = path(3)
        lines = web_lines(web)
        changed(web)
        self.assertEqual(lines, ["points 3", "0 1", "1 2"])
        self.assertEqual(web_lines(web), ["points 3", "0 2"])


class ReadTest(unittest.TestCase):
    def test_every_number_of_points(self):
        for many in range(1, 13):
            web = web_of([f"points {many}"])
            self.assertIs(type(web), Web)
            self.assertEqual(all_told(web), all_told(Web(many)))

    def test_ties_in_any_order_and_either_way_about(self):
        web = web_of(["points 12", "11 0", "2 10", "1 0", "10 11", "3 2"])
        self.assertEqual(web.many(), 12)
        self.assertEqual(web.ties(), [(0, 1), (0, 11), (2, 3), (2, 10), (10, 11)])

    def test_by_keyword(self):
        self.assertEqual(web_of(lines=["points 2", "1 0"]).ties(), [(0, 1)])

    def test_what_was_written_is_read_back(self):
        for many in range(1, 5):
            for web in every_web(many):
                self.assertEqual(all_told(web_of(web_lines(web))), all_told(web))
        for web in mixed_webs(12):
            self.assertEqual(all_told(web_of(web_lines(web))), all_told(web))

    def test_jumbled_lines_are_read_alike(self):
        chance = random.Random(3)
        for web in mixed_webs(12):
            ties = [f"{low} {high}" if chance.randrange(2) else f"{high} {low}" for low, high in web.ties()]
            chance.shuffle(ties)
            read = web_of([f"points {web.many()}"] + ties)
            self.assertEqual(all_told(read), all_told(web))
            self.assertEqual(web_lines(read), web_lines(web))

    def test_the_list_stays_as_it_is(self):
        lines = ["points 4", "3 2", "1 0"]
        web = web_of(lines)
        self.assertEqual(lines, ["points 4", "3 2", "1 0"])
        lines.clear()
        self.assertEqual(web.ties(), [(0, 1), (2, 3)])

    def test_each_reading_makes_a_web_of_its_own(self):
        lines = ["points 3", "0 1"]
        first = web_of(lines)
        second = web_of(lines)
        first.tie(1, 2)
        self.assertEqual(second.ties(), [(0, 1)])


class BadLineTest(RefusalCase):
    def bad(self, place, lines):
        refusal = self.refused(BadLine, web_of, lines)
        self.assertIs(type(refusal.place), int)
        self.assertEqual(refusal.place, place)

    def test_what_is_no_list(self):
        for name, thing in no_texts() + [("text", "points 1"), ("nothing", ""), ("texts", ("points 1",))]:
            if type(thing) is not list:
                with self.subTest(name):
                    self.bad(0, thing)
        self.bad(0, {"points 1": "0 1"})
        self.bad(0, iter(["points 1"]))

    def test_no_lines(self):
        self.bad(0, [])

    def test_first_lines_that_are_none(self):
        lines = [
            "", " ", "points", "points ", " points 3", "points 3 ", "points  3", "points 3 4", "points\t3", "points3",
            "Points 3", "POINTS 3", "point 3", "points 3\n", "\npoints 3", "points three", "points -3", "points +3",
            "points 3.0", "points 0x3", "points 1_0", "points 03", "points 003", "points 012", "points 00", "points x",
            "points 3\x00", "points \u0663", "points \u00b2", "points \uff13", "points \U0001d7d1", "points \ud800",
            "3", "0 1", "3 points", "points points", "points 3,", "points None", "points True",
        ]
        for line in lines:
            with self.subTest(line=ascii(line)):
                self.bad(0, [line])
                self.bad(0, [line, "0 1"])
                self.bad(0, [line, "no line"])

    def test_no_number_of_points_of_a_web(self):
        for number in ("0", "13", "14", "20", "99", "100", "120", "1" * 5000):
            with self.subTest(number):
                self.bad(0, ["points " + number])

    def test_ties_that_are_none(self):
        lines = [
            "", " ", "0", "0 ", " 0", " 0 1", "0 1 ", "0  1", "0 1 2", "0\t1", "01", "0,1", "0-1", "0 1\n", "\n0 1",
            "00 1", "0 01", "0 001", "01 0", "-0 1", "0 -1", "+0 1", "0 +1", "0 1.0", "a b", "0 b", "a 1", "0 1_0",
            "0 \u0661", "\u0660 1", "0 \u00b9", "0 \uff11", "0 \ud800", "points 4", "points 1", "0 points", "None 1",
        ]
        for line in lines:
            with self.subTest(line=ascii(line)):
                self.bad(1, ["points 12", line])
                self.bad(3, ["points 12", "2 3", "4 5", line, "no line"])

    def test_points_that_are_not_there(self):
        for many in range(1, 13):
            for line in (f"0 {many}", f"{many} 0", f"{many} {many}", "0 99", "99 0", "0 100", "100 0", "0 13"):
                with self.subTest(many=many, line=line):
                    self.bad(1, [f"points {many}", line])

    def test_the_last_point_is_there(self):
        for many in range(2, 13):
            self.assertEqual(web_of([f"points {many}", f"{many - 1} 0"]).ties(), [(0, many - 1)])

    def test_ties_that_are_there_already(self):
        self.bad(2, ["points 3", "0 1", "0 1"])
        self.bad(2, ["points 3", "0 1", "1 0"])
        self.bad(3, ["points 3", "2 1", "0 1", "1 2"])
        self.bad(3, ["points 12", "10 11", "0 1", "11 10", "12 12"])

    def test_one_point_twice(self):
        for point in range(12):
            self.bad(1, ["points 12", f"{point} {point}"])
            self.bad(2, ["points 12", "3 4", f"{point} {point}"])

    def test_the_first_of_several(self):
        self.bad(1, ["points 3", "0 3", "1 1", "x"])
        self.bad(2, ["points 3", "0 2", "1 1", "0 3", "x"])
        self.bad(2, ["points 3", "0 2", "2 0", "1 1", None])
        self.bad(0, ["points 13", "0 0", "x"])
        self.bad(0, [None, None])

    def test_things_that_are_no_texts(self):
        for name, thing in no_texts():
            with self.subTest(name):
                self.bad(0, [thing])
                self.bad(0, [thing, "0 1"])
                self.bad(1, ["points 3", thing])
                self.bad(2, ["points 3", "0 1", thing, "0 1"])

    def test_bytes_are_no_texts(self):
        self.bad(0, [b"points 3"])
        self.bad(1, ["points 3", b"0 1"])

    def test_what_only_derives_from_a_text(self):
        self.bad(0, [Text("points 3")])
        self.bad(1, ["points 3", Text("0 1")])

    def test_a_list_within_a_list(self):
        self.bad(0, [["points 3"]])
        self.bad(1, ["points 3", ["0", "1"]])
        ring = ["points 3"]
        ring.append(ring)
        self.bad(1, ring)

    def test_a_refused_list_stays_as_it_is(self):
        inner = [1]
        lines = ["points 3", "2 1", "0 3", inner]
        self.bad(2, lines)
        self.assertEqual(lines, ["points 3", "2 1", "0 3", [1]])
        self.assertIs(lines[3], inner)

    def test_a_refusal_spoils_nothing_for_later(self):
        self.bad(2, ["points 3", "0 1", "0 1"])
        self.assertEqual(web_of(["points 3", "0 1"]).ties(), [(0, 1)])


if __name__ == "__main__":
    unittest.main()
