"""Hunts: numbers of standings, how all go, how a hunt begins, and games."""

import time
import unittest

from cornerhunt.folding import Folded
from cornerhunt.hunts import Hunt
from cornerhunt.webs import Web
from hunt_words import HIDE, SEEK, Words, all_answers, all_standings, expected_answers, following, is_caught
from made_webs import all_told, changed, every_web, full, jumbled, mirrored, mixed_webs, path, ring, web_with


def hunted_webs():
    """Pairs of a web of any size and a number of seekers for it."""
    for web in mixed_webs(12):
        yield web, 1
    for web in mixed_webs(8):
        yield web, 2


def small_webs():
    for many in range(1, 5):
        for web in every_web(many):
            yield web, 1
            yield web, 2


class NumberTest(unittest.TestCase):
    def test_one_point(self):
        for count, seekers in ((1, (0,)), (2, (0, 0))):
            hunt = Hunt(Web(1), count)
            self.assertEqual(hunt.number((seekers, 0, SEEK)), 0)
            self.assertEqual(hunt.number((seekers, 0, HIDE)), 0)

    def test_a_path(self):
        hunt = Hunt(path(5))
        self.assertEqual([hunt.number(((0,), hider, SEEK)) for hider in range(5)], [0, 1, 4, 4, 4])
        self.assertEqual([hunt.number(((0,), hider, HIDE)) for hider in range(5)], [0, 4, 4, 4, 4])
        self.assertEqual([hunt.number(((2,), hider, SEEK)) for hider in range(5)], [2, 1, 0, 1, 2])
        self.assertEqual([hunt.number(((2,), hider, HIDE)) for hider in range(5)], [2, 2, 0, 2, 2])

    def test_a_ring_with_one_seeker(self):
        hunt = Hunt(ring(4))
        self.assertEqual([hunt.number(((0,), hider, SEEK)) for hider in range(4)], [0, 1, None, 1])
        self.assertEqual([hunt.number(((0,), hider, HIDE)) for hider in range(4)], [0, None, None, None])

    def test_a_ring_with_two_seekers(self):
        hunt = Hunt(ring(4), 2)
        self.assertEqual([hunt.number(((0, 0), hider, SEEK)) for hider in range(4)], [0, 1, 2, 1])
        self.assertEqual([hunt.number(((0, 2), hider, HIDE)) for hider in range(4)], [0, 1, 0, 1])

    def test_another_part(self):
        hunt = Hunt(web_with(4, [(0, 1), (2, 3)]))
        self.assertEqual([hunt.number(((0,), hider, SEEK)) for hider in range(4)], [0, 1, None, None])
        self.assertEqual([hunt.number(((0,), hider, HIDE)) for hider in range(4)], [0, 1, None, None])

    def test_two_seekers_in_two_parts(self):
        hunt = Hunt(web_with(4, [(0, 1), (2, 3)]), 2)
        self.assertEqual(hunt.number(((0, 2), 3, SEEK)), 1)
        self.assertEqual(hunt.number(((0, 1), 3, SEEK)), None)

    def test_caught_ones_have_nought_whoever_went(self):
        for web, count in hunted_webs():
            hunt = Hunt(web, count)
            for standing in all_standings(web.many(), count):
                self.assertEqual(hunt.number(standing) == 0, is_caught(standing))

    def test_each_number_goes_by_those_to_which_it_leads(self):
        for web, count in hunted_webs():
            hunt = Hunt(web, count)
            for standing in all_standings(web.many(), count):
                if not is_caught(standing):
                    numbers = [hunt.number(way) for way in following(web, standing)]
                    if standing[2] == SEEK:
                        known = [number + 1 for number in numbers if number is not None]
                        expected = min(known) if known else None
                    else:
                        expected = None if None in numbers else max(numbers)
                    self.assertEqual(hunt.number(standing), expected)

    def test_kinds(self):
        hunt = Hunt(path(3))
        for standing in all_standings(3, 1):
            self.assertIs(type(hunt.number(standing)), int)
        self.assertIsNone(Hunt(Web(2)).number(((0,), 1, SEEK)))

    def test_one_seeker_unless_told_otherwise(self):
        for hunt in (Hunt(path(3)), Hunt(path(3), 1), Hunt(web=path(3), count=1)):
            self.assertEqual(hunt.number(((0,), 2, SEEK)), 2)
        self.assertEqual(Hunt(path(3), count=2).number(standing=((0, 0), 2, SEEK)), 2)


class AnswersTest(unittest.TestCase):
    def assert_answers(self, web, count):
        with self.subTest(many=web.many(), ties=web.ties(), count=count):
            self.assertEqual(all_answers(Hunt(web, count), web, count), expected_answers(web, count))

    def test_every_small_web(self):
        for web, count in small_webs():
            self.assert_answers(web, count)

    def test_webs_of_all_sizes(self):
        for web, count in hunted_webs():
            self.assert_answers(web, count)

    def test_webs_with_their_points_the_other_way_round(self):
        for web, count in hunted_webs():
            self.assert_answers(mirrored(web), count)


class GoesTest(unittest.TestCase):
    def test_the_least_number(self):
        hunt = Hunt(path(5))
        self.assertEqual(hunt.goes(((0,), 4, SEEK)), (1,))
        self.assertEqual(hunt.goes(((2,), 4, SEEK)), (3,))
        self.assertEqual(hunt.goes(((2,), 0, SEEK)), (1,))
        self.assertEqual(hunt.goes(((2,), 1, SEEK)), (1,))

    def test_of_several_the_least_tuple(self):
        self.assertEqual(Hunt(ring(4)).goes(((2,), 0, SEEK)), (1,))
        self.assertEqual(Hunt(full(4), 2).goes(((2, 3), 1, SEEK)), (0, 1))
        self.assertEqual(Hunt(full(4), 2).goes(((2, 3), 0, SEEK)), (0, 0))

    def test_none_is_greater_than_all(self):
        # Only a catch has a number here.
        self.assertEqual(Hunt(ring(4)).goes(((0,), 1, SEEK)), (1,))
        self.assertEqual(Hunt(ring(4)).goes(((0,), 3, SEEK)), (3,))
        self.assertEqual(Hunt(ring(8), 2).goes(((0, 0), 7, SEEK)), (0, 7))

    def test_where_none_has_a_number_the_least_tuple(self):
        self.assertEqual(Hunt(ring(6)).goes(((3,), 0, SEEK)), (2,))
        self.assertEqual(Hunt(Web(4), 2).goes(((1, 2), 0, SEEK)), (1, 2))
        self.assertEqual(Hunt(web_with(5, [(0, 1), (1, 2)]), 2).goes(((1, 2), 4, SEEK)), (0, 1))

    def test_kinds(self):
        for count in (1, 2):
            told = Hunt(path(4), count).goes(((0,) * count, 3, SEEK))
            self.assertIs(type(told), tuple)
            self.assertEqual([type(point) for point in told], [int] * count)


class HidesTest(unittest.TestCase):
    def test_the_greatest_number(self):
        hunt = Hunt(path(5))
        self.assertEqual(hunt.hides(((0,), 1, HIDE)), 2)
        self.assertEqual(hunt.hides(((1,), 2, HIDE)), 3)
        self.assertEqual(hunt.hides(((3,), 2, HIDE)), 1)

    def test_of_several_the_least_point(self):
        self.assertEqual(Hunt(full(4)).hides(((0,), 2, HIDE)), 1)
        self.assertEqual(Hunt(full(4)).hides(((1,), 2, HIDE)), 0)
        self.assertEqual(Hunt(path(5)).hides(((0,), 4, HIDE)), 3)

    def test_none_is_greater_than_all(self):
        self.assertEqual(Hunt(ring(4)).hides(((0,), 1, HIDE)), 2)
        self.assertEqual(Hunt(ring(6)).hides(((0,), 1, HIDE)), 2)

    def test_of_several_without_a_number_the_least_point(self):
        self.assertEqual(Hunt(ring(6)).hides(((0,), 3, HIDE)), 2)
        self.assertEqual(Hunt(web_with(4, [(1, 2), (2, 3)])).hides(((0,), 3, HIDE)), 2)

    def test_kinds(self):
        self.assertIs(type(Hunt(path(4)).hides(((0,), 3, HIDE))), int)


class StartTest(unittest.TestCase):
    def test_the_middle_of_a_path(self):
        self.assertEqual(Hunt(path(5)).start(), ((2,), 0, SEEK))
        self.assertEqual(Hunt(path(4)).start(), ((1,), 3, SEEK))

    def test_one_point(self):
        self.assertEqual(Hunt(Web(1)).start(), ((0,), 0, SEEK))
        self.assertEqual(Hunt(Web(1), 2).start(), ((0, 0), 0, SEEK))

    def test_as_many_seekers_as_points(self):
        for web in (Web(2), path(2)):
            self.assertEqual(Hunt(web, 2).start(), ((0, 1), 0, SEEK))

    def test_where_the_hider_keeps_away(self):
        self.assertEqual(Hunt(ring(6)).start(), ((0,), 2, SEEK))
        self.assertEqual(Hunt(Web(3), 2).start(), ((0, 0), 1, SEEK))
        self.assertEqual(Hunt(web_with(4, [(0, 2), (1, 3)])).start(), ((0,), 1, SEEK))

    def test_two_seekers(self):
        self.assertEqual(Hunt(ring(4), 2).start(), ((0, 1), 2, SEEK))
        self.assertEqual(Hunt(ring(6), 2).start(), Words(ring(6), 2).start())
        self.assertEqual(Hunt(web_with(4, [(0, 2), (1, 3)]), 2).start(), ((0, 1), 2, SEEK))

    def test_the_start_is_a_standing_that_may_be_asked(self):
        for web, count in hunted_webs():
            hunt = Hunt(web, count)
            start = hunt.start()
            self.assertIs(type(start), tuple)
            self.assertIn(start, all_standings(web.many(), count))
            self.assertEqual(hunt.game(start, 0), [start])


class GameTest(unittest.TestCase):
    def test_up_to_a_caught_one(self):
        told = Hunt(path(4)).game(((0,), 3, SEEK), 100)
        game = [((0,), 3, SEEK), ((1,), 3, HIDE), ((1,), 3, SEEK), ((2,), 3, HIDE), ((2,), 3, SEEK), ((3,), 3, HIDE)]
        self.assertEqual(told, game)

    def test_who_hides_does_not_go_where_it_is_caught(self):
        # It may always stay where it is, which is better.
        for web, count in small_webs():
            hunt = Hunt(web, count)
            for standing in all_standings(web.many(), count):
                if not is_caught(standing) and standing[2] == HIDE:
                    self.assertFalse(is_caught(hunt.game(standing, 1)[-1]))

    def test_so_many_behind_the_first(self):
        hunt = Hunt(ring(4))
        for most in range(101):
            self.assertEqual(len(hunt.game(((0,), 2, SEEK), most)), most + 1)
        hiding, seeking = ((0,), 2, HIDE), ((0,), 2, SEEK)
        self.assertEqual(hunt.game(hiding, 3), [hiding, seeking, hiding, seeking])

    def test_nought_behind_the_first(self):
        for web, count in small_webs():
            hunt = Hunt(web, count)
            for standing in all_standings(web.many(), count):
                self.assertEqual(hunt.game(standing, 0), [standing])

    def test_a_caught_one_stands_alone(self):
        for turn in (SEEK, HIDE):
            for most in (0, 1, 100):
                self.assertEqual(Hunt(path(3)).game(((1,), 1, turn), most), [((1,), 1, turn)])
                self.assertEqual(Hunt(path(3), 2).game(((0, 1), 1, turn), most), [((0, 1), 1, turn)])

    def test_each_next_one_by_the_words(self):
        for web, count in hunted_webs():
            hunt = Hunt(web, count)
            words = Words(web, count)
            for standing in all_standings(web.many(), count)[:: web.many() // 2 + 1]:
                for most in (1, 2, 3, 7, 30):
                    self.assertEqual(hunt.game(standing, most), words.game(standing, most))

    def test_the_seekers_go_just_as_often_as_the_number_tells(self):
        for web, count in hunted_webs():
            hunt = Hunt(web, count)
            for standing in all_standings(web.many(), count):
                game = hunt.game(standing, 100)
                number = hunt.number(standing)
                if number is None:
                    self.assertEqual(len(game), 101)
                    self.assertFalse(any(is_caught(one) for one in game))
                else:
                    self.assertTrue(is_caught(game[-1]))
                    self.assertEqual(sum(one[2] == SEEK for one in game[:-1]), number)

    def test_by_keyword(self):
        self.assertEqual(Hunt(path(3)).game(most=1, standing=((0,), 1, SEEK)), [((0,), 1, SEEK), ((1,), 1, HIDE)])

    def test_kinds(self):
        told = Hunt(path(4), 2).game(((0, 0), 3, SEEK), 5)
        self.assertIs(type(told), list)
        for seekers, hider, turn in told:
            self.assertEqual((type(seekers), type(hider), type(turn)), (tuple, int, str))


class KernelTest(unittest.TestCase):
    def assert_kernel_tells(self, web):
        if len(web.parts()) == 1:
            hunt = Hunt(web)
            numbers = [hunt.number(standing) for standing in all_standings(web.many(), 1)]
            with self.subTest(many=web.many(), ties=web.ties()):
                self.assertEqual(None not in numbers, len(Folded(web).kernel()) == 1)

    def test_every_small_web(self):
        for many in range(1, 6):
            for web in every_web(many):
                self.assert_kernel_tells(web)

    def test_webs_of_all_sizes(self):
        for web in mixed_webs(12):
            self.assert_kernel_tells(web)

    def test_several_parts_leave_standings_without_a_number(self):
        for web in mixed_webs(12):
            if len(web.parts()) > 1:
                hunt = Hunt(web)
                self.assertIn(None, [hunt.number(standing) for standing in all_standings(web.many(), 1)])

    def test_who_goes_by_refuge_is_not_caught(self):
        for web in (ring(5), ring(12), web_with(6, ring(4).ties() + [(0, 4), (4, 5)])):
            folded = Folded(web)
            hunt = Hunt(web)
            for hider in folded.kernel():
                for seeker in range(web.many()):
                    if hider != folded.shadow(seeker):
                        goal = folded.refuge(hider, seeker)
                        self.assertIsNone(hunt.number(((seeker,), goal, SEEK)))


class StaysTest(unittest.TestCase):
    def test_told_again_after_the_web_was_changed(self):
        for web, count in hunted_webs():
            hunt = Hunt(web, count)
            # The web is changed ahead of the first question, too.
            old = web_with(web.many(), web.ties())
            changed(web)
            with self.subTest(many=web.many(), ties=web.ties(), count=count):
                self.assertEqual(all_answers(hunt, old, count), expected_answers(old, count))
                self.assertEqual(all_answers(Hunt(web, count), web, count), expected_answers(web, count))
                self.assertEqual(all_answers(hunt, old, count), expected_answers(old, count))

    def test_two_hunts_do_not_touch_one_another(self):
        web = path(5)
        one, two, other = Hunt(web), Hunt(web, 2), Hunt(ring(5))
        for _ in range(2):
            self.assertEqual(all_answers(other, ring(5), 1), expected_answers(ring(5), 1))
            self.assertEqual(all_answers(two, web, 2), expected_answers(web, 2))
            self.assertEqual(all_answers(one, web, 1), expected_answers(web, 1))

    def test_a_told_game_is_the_askers_own(self):
        hunt = Hunt(path(5))
        game = hunt.game(((0,), 4, SEEK), 4)
        kept = list(game)
        hunt.game(((0,), 4, SEEK), 4).clear()
        self.assertEqual(game, kept)
        game.clear()
        self.assertEqual(hunt.game(((0,), 4, SEEK), 4), kept)

    def test_the_web_stays_as_it_is(self):
        for web, count in hunted_webs():
            before = all_told(web)
            hunt = Hunt(web, count)
            hunt.game(hunt.start(), 9)
            self.assertEqual(all_told(web), before)

    def test_a_folding_and_a_hunt_of_one_web(self):
        web = jumbled(7, 5, 4)
        folded, hunt = Folded(web), Hunt(web, 2)
        row, kernel = folded.row(), folded.kernel()
        answers = all_answers(hunt, web, 2)
        self.assertEqual((folded.row(), folded.kernel()), (row, kernel))
        self.assertEqual(all_answers(hunt, web, 2), answers)


class TimeTest(unittest.TestCase):
    def test_all_standings_take_well_below_a_second(self):
        for many, count in ((12, 1), (8, 2)):
            for web in (path(many), ring(many), full(many), jumbled(many, 1, 3), jumbled(many, 2, 6)):
                begun = time.process_time()
                all_answers(Hunt(web, count), web, count)
                self.assertLess(time.process_time() - begun, 0.5)


if __name__ == "__main__":
    unittest.main()
