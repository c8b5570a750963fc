"""Hunts: what they refuse, by which refusal, and that it changes nothing."""

import unittest

from cornerhunt.errors import BadCount, BadStanding, TooMany
from cornerhunt.hunts import Hunt
from cornerhunt.webs import Web
from hunt_words import HIDE, SEEK, all_answers, all_standings, is_caught
from made_webs import all_told, full, path, ring
from refusals import RefusalCase
from wrong_kinds import Hostile, great_numbers, no_numbers, no_points


def things():
    """Pairs of a name and a thing of any kind that is no standing, no tuple of seekers and no turn."""
    return [("nought", 0), ("one", 1)] + great_numbers() + no_numbers()


def no_turns():
    words = ["", " ", "s", "see", "seeks", "seek ", "seek\n", "Seek", "SEEK", " hide", "hides", "Hide", "caught"]
    return [(ascii(word), word) for word in words] + [("bytes", b"seek")] + things()


def no_standings(many, count):
    """Pairs of a name and a thing that is no standing of a hunt of so many points and seekers."""
    last = many - 1
    good = (0,) * count
    found = things()
    found += [
        ("a list", [good, last, SEEK]),
        ("two things", (good, last)),
        ("four things", (good, last, SEEK, SEEK)),
        ("a standing twice", (good, last, SEEK) * 2),
        ("a standing in a tuple", ((good, last, SEEK),)),
        ("out of order", (last, good, SEEK)),
        ("turn first", (SEEK, good, last)),
        ("a dict", {0: good, 1: last, 2: SEEK}),
        ("seekers in a list", (list(good), last, SEEK)),
        ("seekers that are a number", (0, last, SEEK)),
        ("no seekers", ((), last, SEEK)),
        ("one seeker too many", (good + (0,), last, SEEK)),
        ("one seeker more still", (good + (0, 0), last, SEEK)),
        ("one seeker too few", (good[1:], last, SEEK)),
        ("seekers in tuples", ((good,) * count, last, SEEK)),
        ("hider in a tuple", (good, (last,), SEEK)),
        ("hider in a list", (good, [last], SEEK)),
    ]
    found += [("turn " + name, (good, last, thing)) for name, thing in no_turns()]
    # (1,) and (0, 1) are seekers of some hunts.
    found += [("seekers " + name, (thing, last, SEEK)) for name, thing in things() if name not in ("tuple", "pair")]
    for turn in (SEEK, HIDE):
        found += [(f"hider {name} at {turn}", (good, thing, turn)) for name, thing in no_points(many)]
        found += [(f"seeker {name} at {turn}", (good[1:] + (thing,), last, turn)) for name, thing in no_points(many)]
    if count == 2:
        found += [("first seeker " + name, ((thing, last), 0, SEEK)) for name, thing in no_points(many)]
        found += [("falling seekers", ((one, other), last, SEEK)) for one in range(many) for other in range(one)]
        found += [("caught by falling seekers", ((last, 0), last, HIDE))]
    return found


class HuntCase(RefusalCase):
    """Has some hunts, and checks that they tell the same behind each test."""

    def setUp(self):
        self.hunts = []
        for web, count in [(path(4), 1), (ring(5), 1), (path(4), 2), (full(3), 2)]:
            self.hunts.append((web, count, Hunt(web, count)))
        self.before = [all_answers(hunt, web, count) for web, count, hunt in self.hunts]

    def tearDown(self):
        self.assertEqual([all_answers(hunt, web, count) for web, count, hunt in self.hunts], self.before)


class NoStandingTest(HuntCase):
    def test_what_is_no_standing(self):
        for web, count, hunt in self.hunts:
            for name, thing in no_standings(web.many(), count):
                with self.subTest(name, many=web.many(), count=count):
                    self.refused(BadStanding, hunt.number, thing)
                    self.refused(BadStanding, hunt.goes, thing)
                    self.refused(BadStanding, hunt.hides, thing)
                    self.refused(BadStanding, hunt.game, thing, 3)

    def test_true_and_false_are_no_points(self):
        for web, count, hunt in self.hunts:
            for turn in (SEEK, HIDE):
                for seekers, hider in [((False,) * count, 1), ((0,) * count, True), ((True,) * count, 0)]:
                    for call in (hunt.number, hunt.goes, hunt.hides):
                        self.refused(BadStanding, call, (seekers, hider, turn))
                    self.refused(BadStanding, hunt.game, (seekers, hider, turn), 1)

    def test_ahead_of_a_bad_count(self):
        for web, count, hunt in self.hunts:
            for name, thing in no_standings(web.many(), count):
                for most in (-1, 101, None, True, "3", Hostile()):
                    with self.subTest(name, many=web.many(), count=count):
                        self.refused(BadStanding, hunt.game, thing, most)

    def test_standings_of_another_hunt(self):
        one, two = Hunt(path(4)), Hunt(path(4), 2)
        for standing in all_standings(4, 1):
            self.refused(BadStanding, two.number, standing)
        for standing in all_standings(4, 2):
            self.refused(BadStanding, one.number, standing)
        for standing in all_standings(5, 1):
            if standing not in all_standings(4, 1):
                self.refused(BadStanding, one.number, standing)
        for standing in all_standings(5, 2):
            if standing not in all_standings(4, 2):
                self.refused(BadStanding, two.number, standing)

    def test_every_standing_is_one(self):
        for web, count, hunt in self.hunts:
            for standing in all_standings(web.many(), count):
                hunt.number(standing)
                self.assertEqual(hunt.game(standing, 2)[0], standing)

    def test_handed_in_lists_stay(self):
        hunt = Hunt(path(4))
        rows = [[0], 3, SEEK]
        for call in (hunt.number, hunt.goes, hunt.hides):
            self.refused(BadStanding, call, rows)
            self.refused(BadStanding, call, (rows[0], 3, SEEK))
        self.refused(BadStanding, hunt.game, rows, 1)
        self.assertEqual(rows, [[0], 3, SEEK])


class WrongTurnTest(HuntCase):
    def test_a_caught_one(self):
        for web, count, hunt in self.hunts:
            for standing in all_standings(web.many(), count):
                if is_caught(standing):
                    self.refused(BadStanding, hunt.goes, standing)
                    self.refused(BadStanding, hunt.hides, standing)

    def test_the_other_turn(self):
        for web, count, hunt in self.hunts:
            for standing in all_standings(web.many(), count):
                if not is_caught(standing):
                    refusing, telling = hunt.hides, hunt.goes
                    if standing[2] == HIDE:
                        refusing, telling = hunt.goes, hunt.hides
                    self.refused(BadStanding, refusing, standing)
                    telling(standing)

    def test_caught_by_the_second_seeker(self):
        hunt = Hunt(path(4), 2)
        self.refused(BadStanding, hunt.goes, ((0, 2), 2, SEEK))
        self.refused(BadStanding, hunt.hides, ((0, 2), 2, HIDE))


class SeekersTest(RefusalCase):
    def no_counts(self):
        numbers = [(str(number), number) for number in (0, 3, 4, 12, -1, -2)]
        return numbers + great_numbers() + no_numbers()

    def test_neither_one_nor_two(self):
        for many in (1, 4, 8, 12):
            web = path(many)
            before = all_told(web)
            for name, thing in self.no_counts():
                with self.subTest(name, many=many):
                    self.refused(BadCount, Hunt, web, thing)
                    self.refused(BadCount, Hunt, web, count=thing)
            self.assertEqual(all_told(web), before)

    def test_two_on_more_than_8_points(self):
        for many in range(1, 13):
            web = ring(many) if many > 2 else path(many)
            before = all_told(web)
            with self.subTest(many):
                if many > 8:
                    self.refused(TooMany, Hunt, web, 2)
                    self.refused(TooMany, Hunt, web=web, count=2)
                else:
                    self.assertEqual(len(Hunt(web, 2).start()[0]), 2)
                self.assertEqual(len(Hunt(web, 1).start()[0]), 1)
                self.assertEqual(len(Hunt(web).start()[0]), 1)
            self.assertEqual(all_told(web), before)

    def test_bare_webs_are_too_great_as_well(self):
        self.refused(TooMany, Hunt, Web(9), 2)
        self.assertEqual(Hunt(Web(8), 2).start(), ((0, 0), 1, SEEK))


class MostTest(HuntCase):
    def test_numbers_of_standings_that_are_none(self):
        numbers = [(str(number), number) for number in (-1, 101, 102, 1000, -100)]
        for web, count, hunt in self.hunts:
            for standing in all_standings(web.many(), count)[::5]:
                for name, most in numbers + great_numbers() + no_numbers():
                    with self.subTest(name, many=web.many(), count=count):
                        self.refused(BadCount, hunt.game, standing, most)

    def test_of_a_caught_standing_too(self):
        hunt = Hunt(path(4))
        for turn in (SEEK, HIDE):
            for most in (-1, 101, None, True, False):
                self.refused(BadCount, hunt.game, ((1,), 1, turn), most)

    def test_the_bounds(self):
        hunt = Hunt(ring(5))
        self.assertEqual(len(hunt.game(((0,), 2, SEEK), 0)), 1)
        self.assertEqual(len(hunt.game(((0,), 2, SEEK), 100)), 101)


if __name__ == "__main__":
    unittest.main()
