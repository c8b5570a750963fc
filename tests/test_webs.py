"""Webs: their points, ties, what is near a point, and their parts."""

import unittest

from cornerhunt.errors import BadTie, BadWeb, NoPoint
from cornerhunt.webs import Web
from made_webs import all_told, web_with
from refusals import RefusalCase
from wrong_kinds import great_numbers, no_numbers, no_points


def expected(many, ties):
    """All that a web of these ties has to tell, worked out from the bare pairs."""
    points = range(many)
    pairs = {frozenset(tie) for tie in ties}
    tied = [[frozenset((one, other)) in pairs for other in points] for one in points]
    # Each point takes the least label near it, till nothing changes any more.
    labels = list(points)
    for _ in points:
        labels = [min(labels[other] for other in points if other == one or tied[one][other]) for one in points]
    return {
        "many": many,
        "ties": sorted(tuple(sorted(pair)) for pair in pairs),
        "near": [[other for other in points if other == one or tied[one][other]] for one in points],
        "parts": [[one for one in points if labels[one] == label] for label in sorted(set(labels))],
        "is_tied": tied,
    }


class SizeTest(RefusalCase):
    def test_every_number_from_1_to_12(self):
        for many in range(1, 13):
            with self.subTest(many):
                web = Web(many)
                self.assertEqual(web.many(), many)
                self.assertIs(type(web.many()), int)

    def test_many_by_keyword(self):
        self.assertEqual(Web(many=5).many(), 5)

    def test_a_new_web_has_no_ties(self):
        for many in range(1, 13):
            with self.subTest(many):
                self.assertEqual(all_told(Web(many)), expected(many, []))

    def test_numbers_out_of_bounds(self):
        numbers = [(str(many), many) for many in (0, 13, 14, 100, -1, -2, -12)]
        for name, many in numbers + great_numbers():
            with self.subTest(name):
                self.refused(BadWeb, Web, many)

    def test_what_is_no_number(self):
        for name, thing in no_numbers():
            with self.subTest(name):
                self.refused(BadWeb, Web, thing)

    def test_a_refused_list_is_not_changed(self):
        rows = [3, [4]]
        self.refused(BadWeb, Web, rows)
        self.assertEqual(rows, [3, [4]])


class TieTest(unittest.TestCase):
    def test_tie_and_untie_tell_none(self):
        web = Web(3)
        self.assertIsNone(web.tie(0, 2))
        self.assertIsNone(web.untie(0, 2))

    def test_points_by_keyword(self):
        web = Web(3)
        web.tie(one=2, other=1)
        self.assertIs(web.is_tied(one=1, other=2), True)
        web.untie(one=1, other=2)
        self.assertEqual(web.ties(), [])
        self.assertEqual(web.near(point=1), [1])

    def test_each_tie_of_the_greatest_web(self):
        for one in range(12):
            for other in range(12):
                if one != other:
                    with self.subTest(one=one, other=other):
                        web = web_with(12, [(one, other)])
                        self.assertEqual(all_told(web), expected(12, [(one, other)]))
                        web.untie(other, one)
                        self.assertEqual(all_told(web), expected(12, []))

    def test_all_ties_at_once(self):
        ties = [(one, other) for one in range(12) for other in range(one)]
        self.assertEqual(all_told(web_with(12, ties)), expected(12, ties))

    def test_one_point_twice(self):
        for many in (1, 3, 12):
            web = Web(many)
            before = all_told(web)
            for point in range(many):
                with self.subTest(many, point=point):
                    with self.assertRaises(BadTie):
                        web.tie(point, point)
                    with self.assertRaises(BadTie):
                        web.untie(point, point)
                    self.assertEqual(all_told(web), before)

    def test_a_tie_that_is_there_already(self):
        web = web_with(4, [(2, 1), (0, 3)])
        before = all_told(web)
        for one, other in [(1, 2), (2, 1), (0, 3), (3, 0)]:
            with self.subTest(one=one, other=other):
                with self.assertRaises(BadTie):
                    web.tie(one, other)
                self.assertEqual(all_told(web), before)

    def test_taking_out_a_tie_that_is_not_there(self):
        web = web_with(4, [(2, 1), (0, 3)])
        before = all_told(web)
        for one, other in [(0, 1), (1, 0), (2, 3), (3, 2), (0, 2), (1, 3)]:
            with self.subTest(one=one, other=other):
                with self.assertRaises(BadTie):
                    web.untie(one, other)
                self.assertEqual(all_told(web), before)

    def test_taking_out_twice(self):
        web = web_with(2, [(0, 1)])
        web.untie(0, 1)
        with self.assertRaises(BadTie):
            web.untie(0, 1)
        self.assertEqual(all_told(web), expected(2, []))

    def test_a_tie_may_be_put_in_again(self):
        web = web_with(2, [(0, 1)])
        web.untie(1, 0)
        web.tie(1, 0)
        self.assertEqual(web.ties(), [(0, 1)])


class NoPointTest(RefusalCase):
    def setUp(self):
        self.web = web_with(4, [(0, 1), (2, 1)])
        self.before = all_told(self.web)

    def no_point(self, call, *points):
        self.refused(NoPoint, call, *points)
        self.assertEqual(all_told(self.web), self.before)

    def test_a_first_point_that_is_none(self):
        for call in (self.web.tie, self.web.untie, self.web.is_tied):
            for name, thing in no_points(4):
                with self.subTest(name, call=call.__name__):
                    self.no_point(call, thing, 3)

    def test_a_second_point_that_is_none(self):
        for call in (self.web.tie, self.web.untie, self.web.is_tied):
            for name, thing in no_points(4):
                with self.subTest(name, call=call.__name__):
                    self.no_point(call, 3, thing)

    def test_no_point_twice_is_no_point_ahead_of_a_bad_tie(self):
        for call in (self.web.tie, self.web.untie, self.web.is_tied):
            for name, thing in no_points(4):
                with self.subTest(name, call=call.__name__):
                    self.no_point(call, thing, thing)

    def test_true_and_false_beside_points_that_are_tied(self):
        # Taken for 1 and 0 they would name a tie, or one point twice.
        for call in (self.web.tie, self.web.untie, self.web.is_tied):
            for points in [(True, 0), (0, True), (False, 1), (1, False), (True, 1), (0, False)]:
                with self.subTest(points, call=call.__name__):
                    self.no_point(call, *points)

    def test_near(self):
        for name, thing in no_points(4):
            with self.subTest(name):
                self.no_point(self.web.near, thing)

    def test_the_bound_is_that_of_each_web(self):
        for many in range(1, 13):
            with self.subTest(many):
                web = Web(many)
                self.assertEqual(web.near(many - 1), [many - 1])
                self.refused(NoPoint, web.near, many)

    def test_handed_in_lists_are_not_changed(self):
        rows = [1, [2]]
        for call in (self.web.tie, self.web.untie, self.web.is_tied):
            self.no_point(call, rows, 0)
            self.no_point(call, 0, rows)
        self.no_point(self.web.near, rows)
        self.assertEqual(rows, [1, [2]])


class ToldTest(unittest.TestCase):
    def test_is_tied_tells_true_or_false_itself(self):
        web = web_with(3, [(2, 0)])
        self.assertIs(web.is_tied(0, 2), True)
        self.assertIs(web.is_tied(2, 0), True)
        self.assertIs(web.is_tied(0, 1), False)
        self.assertIs(web.is_tied(1, 0), False)

    def test_is_tied_of_one_point(self):
        web = web_with(3, [(2, 0), (0, 1), (1, 2)])
        for point in range(3):
            self.assertIs(web.is_tied(point, point), False)

    def test_ties_rise_whichever_way_they_were_put_in(self):
        web = web_with(12, [(11, 2), (10, 2), (1, 0), (3, 2), (0, 11), (9, 0)])
        self.assertEqual(web.ties(), [(0, 1), (0, 9), (0, 11), (2, 3), (2, 10), (2, 11)])

    def test_ties_are_a_list_of_tuples_of_numbers(self):
        told = web_with(3, [(1, 0), (2, 1)]).ties()
        self.assertIs(type(told), list)
        self.assertEqual([type(tie) for tie in told], [tuple, tuple])
        self.assertEqual({type(point) for tie in told for point in tie}, {int})

    def test_near_rises_and_holds_the_point_itself(self):
        web = web_with(12, [(5, 11), (10, 5), (5, 0), (3, 5), (11, 0)])
        self.assertEqual(web.near(5), [0, 3, 5, 10, 11])
        self.assertEqual(web.near(11), [0, 5, 11])
        self.assertEqual(web.near(0), [0, 5, 11])
        self.assertEqual(web.near(4), [4])
        self.assertIs(type(web.near(5)), list)

    def test_near_is_just_one_tie_away(self):
        web = web_with(4, [(0, 1), (1, 2), (2, 3)])
        self.assertEqual([web.near(point) for point in range(4)], [[0, 1], [0, 1, 2], [1, 2, 3], [2, 3]])


class PartsTest(unittest.TestCase):
    def test_one_part(self):
        for many in range(1, 13):
            with self.subTest(many):
                path = [(point, point + 1) for point in range(many - 1)]
                self.assertEqual(web_with(many, path).parts(), [list(range(many))])

    def test_a_part_of_far_points_found_out_of_order(self):
        web = web_with(5, [(0, 4), (4, 1), (1, 3), (3, 2)])
        self.assertEqual(web.parts(), [[0, 1, 2, 3, 4]])

    def test_a_ring(self):
        ring = [(point, (point + 1) % 12) for point in range(12)]
        self.assertEqual(web_with(12, ring).parts(), [list(range(12))])

    def test_several_parts_by_their_least_points(self):
        web = web_with(9, [(8, 0), (7, 1), (1, 5), (2, 6), (6, 3)])
        self.assertEqual(web.parts(), [[0, 8], [1, 5, 7], [2, 3, 6], [4]])

    def test_single_points(self):
        self.assertEqual(Web(1).parts(), [[0]])
        self.assertEqual(Web(4).parts(), [[0], [1], [2], [3]])

    def test_parts_grow_together_and_fall_apart(self):
        web = web_with(4, [(0, 3), (1, 2)])
        self.assertEqual(web.parts(), [[0, 3], [1, 2]])
        web.tie(2, 3)
        self.assertEqual(web.parts(), [[0, 1, 2, 3]])
        web.untie(0, 3)
        self.assertEqual(web.parts(), [[0], [1, 2, 3]])

    def test_lists_of_a_list(self):
        told = web_with(3, [(0, 2)]).parts()
        self.assertIs(type(told), list)
        self.assertEqual([type(part) for part in told], [list, list])


class OwnListsTest(unittest.TestCase):
    def test_changed_lists_change_nothing_told_later(self):
        web = web_with(5, [(0, 1), (1, 2), (3, 4)])
        before = all_told(web)
        web.ties().clear()
        web.ties().append((0, 4))
        for point in range(5):
            web.near(point).clear()
            web.near(point).append(9)
        web.parts().clear()
        web.parts()[0].clear()
        web.parts()[1].append(9)
        self.assertEqual(all_told(web), before)

    def test_one_told_list_is_not_another_one(self):
        web = web_with(3, [(0, 1)])
        for tell in (web.ties, web.parts, lambda: web.near(0)):
            first = tell()
            second = tell()
            self.assertIsNot(first, second)
            first.append("mine")
            self.assertNotIn("mine", second)
        first = web.parts()
        second = web.parts()
        first[0].append("mine")
        self.assertEqual(second, [[0, 1], [2]])

    def test_lists_stay_as_they_were_when_the_web_changes(self):
        web = web_with(4, [(0, 1), (2, 3)])
        before = all_told(web)
        web.tie(1, 2)
        web.untie(0, 1)
        web.untie(2, 3)
        self.assertEqual(before, expected(4, [(0, 1), (2, 3)]))
        self.assertEqual(all_told(web), expected(4, [(1, 2)]))

    def test_two_webs_do_not_touch_one_another(self):
        first = Web(4)
        second = Web(4)
        first.tie(0, 1)
        self.assertEqual(all_told(second), expected(4, []))
        second.tie(2, 3)
        second.tie(0, 1)
        first.untie(0, 1)
        self.assertEqual(all_told(first), expected(4, []))
        self.assertEqual(all_told(second), expected(4, [(0, 1), (2, 3)]))


class ManyStepsTest(unittest.TestCase):
    def step(self, web, ties, one, other):
        """Put the tie in, or take it out; the other call has to be refused."""
        pair = (min(one, other), max(one, other))
        if one == other:
            with self.assertRaises(BadTie):
                web.tie(one, other)
        elif pair in ties:
            with self.assertRaises(BadTie):
                web.tie(one, other)
            web.untie(one, other)
            ties.remove(pair)
        else:
            with self.assertRaises(BadTie):
                web.untie(one, other)
            web.tie(one, other)
            ties.append(pair)

    def test_all_that_is_told_behind_each_step(self):
        for many in (1, 2, 3, 5, 8, 12):
            web = Web(many)
            ties = []
            number = many
            for turn in range(150):
                # A fixed row of numbers that goes over the pairs in a jumble.
                number = (number * 1103515245 + 12345) % 2**31
                one, other = number // 7 % many, number // 1009 % many
                with self.subTest(many, turn=turn, one=one, other=other):
                    self.step(web, ties, one, other)
                    self.assertEqual(all_told(web), expected(many, ties))

    def test_every_tie_in_and_out_in_turn(self):
        web = Web(6)
        ties = []
        pairs = [(one, other) for one in range(6) for other in range(6) if one < other]
        for one, other in pairs + [(other, one) for one, other in pairs]:
            with self.subTest(one=one, other=other):
                self.step(web, ties, one, other)
                self.assertEqual(all_told(web), expected(6, ties))
        self.assertEqual(web.ties(), [])


if __name__ == "__main__":
    unittest.main()
