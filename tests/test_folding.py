"""Folding: what lies beneath what, rows, kernels, shadows and refuges."""

import random
import unittest
from itertools import combinations, permutations

from cornerhunt.errors import BadStanding, NoPoint
from cornerhunt.folding import Folded, is_beneath
from cornerhunt.webs import Web
from made_webs import all_told, changed, every_web, full, mirrored, mixed_webs, path, ring, web_with
from refusals import RefusalCase
from wrong_kinds import no_points


def near_among(web, points, point):
    return {other for other in points if other == point or web.is_tied(point, other)}


def beneath_among(web, points):
    """All pairs of which the one lies beneath the other, from the words of the document."""
    return sorted(
        (one, other)
        for one, other in permutations(points, 2)
        if near_among(web, points, one) <= near_among(web, points, other)
    )


def expected_fold(web):
    """The row, the kernel and the shadows, from the words of the document."""
    left = set(range(web.many()))
    row = []
    while beneath_among(web, left):
        row.append(beneath_among(web, left)[0])
        left.remove(row[-1][0])
    beneath = dict(row)
    shadows = []
    for point in range(web.many()):
        while point in beneath:
            point = beneath[point]
        shadows.append(point)
    return row, sorted(left), shadows


def fold_told(folded, many):
    return folded.row(), folded.kernel(), [folded.shadow(point) for point in range(many)]


def expected_refuge(web, kernel, hider, shadow):
    return min(point for point in kernel if point in web.near(hider) and point not in web.near(shadow))


class IsBeneathTest(unittest.TestCase):
    def assert_beneath(self, web, points):
        expected = beneath_among(web, points)
        for one, other in permutations(points, 2):
            handed_in = list(points)
            with self.subTest(many=web.many(), ties=web.ties(), points=points, one=one, other=other):
                self.assertIs(is_beneath(web, handed_in, one, other), (one, other) in expected)
                self.assertEqual(handed_in, list(points))

    def test_a_path(self):
        web = path(3)
        self.assertIs(is_beneath(web, [0, 1, 2], 0, 1), True)
        self.assertIs(is_beneath(web, [0, 1, 2], 1, 0), False)
        self.assertIs(is_beneath(web, [0, 1, 2], 2, 1), True)
        self.assertIs(is_beneath(web, [0, 1, 2], 0, 2), False)

    def test_only_the_points_handed_in_count(self):
        web = path(4)
        self.assertIs(is_beneath(web, [0, 1, 2, 3], 1, 2), False)
        self.assertIs(is_beneath(web, [1, 2, 3], 1, 2), True)
        self.assertIs(is_beneath(web, [1, 3], 1, 3), False)

    def test_each_lies_beneath_the_other(self):
        web = full(4)
        for one, other in permutations(range(4), 2):
            self.assertIs(is_beneath(web, [0, 1, 2, 3], one, other), True)

    def test_points_without_a_tie(self):
        for one, other in permutations(range(3), 2):
            self.assertIs(is_beneath(Web(3), [0, 1, 2], one, other), False)

    def test_by_keyword(self):
        self.assertIs(is_beneath(web=path(3), points=[2, 1, 0], one=0, other=1), True)

    def test_each_two_of_some_points_of_small_webs(self):
        for many in (2, 3, 4):
            for web in every_web(many):
                for size in range(2, many + 1):
                    for points in combinations(range(many), size):
                        self.assert_beneath(web, points)

    def test_the_list_may_be_in_any_order(self):
        for web in (path(4), ring(4), full(4), web_with(4, [(0, 1), (1, 2), (2, 0), (3, 1)])):
            for points in permutations(range(4)):
                self.assert_beneath(web, points)

    def test_great_webs(self):
        chance = random.Random(7)
        for web in mixed_webs(12):
            points = list(range(web.many()))
            chance.shuffle(points)
            self.assert_beneath(web, points)
            self.assert_beneath(web, points[: web.many() // 2 + 1])

    def test_the_web_stays_as_it_is(self):
        web = ring(5)
        before = all_told(web)
        is_beneath(web, [0, 1, 2], 0, 1)
        self.assertEqual(all_told(web), before)

    def test_behind_a_tie_put_in_or_taken_out(self):
        web = path(3)
        web.tie(0, 2)
        self.assertIs(is_beneath(web, [0, 1, 2], 1, 0), True)
        web.untie(1, 2)
        self.assertIs(is_beneath(web, [0, 1, 2], 2, 1), False)
        self.assertIs(is_beneath(web, [0, 1, 2], 1, 0), True)
        for seen in mixed_webs(7):
            changed(seen)
            self.assert_beneath(seen, list(range(seen.many())))


class RowTest(unittest.TestCase):
    def assert_folded(self, web):
        with self.subTest(many=web.many(), ties=web.ties()):
            self.assertEqual(fold_told(Folded(web), web.many()), expected_fold(web))

    def test_one_point(self):
        self.assertEqual(fold_told(Folded(Web(1)), 1), ([], [0], [0]))

    def test_no_ties(self):
        self.assertEqual(fold_told(Folded(Web(3)), 3), ([], [0, 1, 2], [0, 1, 2]))

    def test_a_path(self):
        self.assertEqual(fold_told(Folded(path(4)), 4), ([(0, 1), (1, 2), (2, 3)], [3], [3, 3, 3, 3]))

    def test_all_tied(self):
        self.assertEqual(fold_told(Folded(full(3)), 3), ([(0, 1), (1, 2)], [2], [2, 2, 2]))

    def test_a_ring(self):
        self.assertEqual(fold_told(Folded(full(3)), 3), fold_told(Folded(ring(3)), 3))
        for many in range(4, 13):
            points = list(range(many))
            self.assertEqual(fold_told(Folded(ring(many)), many), ([], points, points))

    def test_a_ring_with_a_tail(self):
        tailed = web_with(6, ring(4).ties() + [(2, 4), (4, 5)])
        self.assertEqual(fold_told(Folded(tailed), 6), ([(5, 4), (4, 2)], [0, 1, 2, 3], [0, 1, 2, 3, 2, 2]))

    def test_the_least_one_goes_beneath_the_least_one(self):
        # 0, 1 and 4 each lie beneath 2 and beneath 3, and these beneath one another.
        web = web_with(5, [(1, 2), (1, 3), (2, 3), (2, 4), (3, 4), (0, 2), (0, 3)])
        self.assertEqual(Folded(web).row()[:2], [(0, 2), (1, 2)])
        self.assertEqual(Folded(mirrored(web)).row()[0], (0, 1))

    def test_a_point_may_come_to_lie_beneath_a_lesser_one_later(self):
        web = web_with(4, [(0, 1), (0, 2), (0, 3), (1, 2)])
        self.assertEqual(Folded(web).row(), [(1, 0), (2, 0), (0, 3)])

    def test_several_parts(self):
        web = web_with(5, [(0, 3), (2, 1), (2, 4)])
        self.assertEqual(fold_told(Folded(web), 5), ([(0, 3), (1, 2), (2, 4)], [3, 4], [3, 4, 4, 3, 4]))

    def test_by_keyword(self):
        folded = Folded(web=path(3))
        self.assertEqual(folded.shadow(point=0), 2)

    def test_every_small_web(self):
        for many in range(1, 6):
            for web in every_web(many):
                self.assert_folded(web)

    def test_webs_of_all_sizes(self):
        for web in mixed_webs(12):
            self.assert_folded(web)
            self.assert_folded(mirrored(web))

    def test_kinds_of_what_is_told(self):
        folded = Folded(web_with(5, [(0, 1), (2, 3), (3, 4)]))
        self.assertIs(type(folded.row()), list)
        self.assertEqual({type(fold) for fold in folded.row()}, {tuple})
        self.assertIs(type(folded.kernel()), list)
        self.assertEqual({type(point) for point in folded.kernel()}, {int})
        self.assertIs(type(folded.shadow(0)), int)


class KernelTest(unittest.TestCase):
    def test_nothing_in_the_kernel_lies_beneath_another_one(self):
        for web in mixed_webs(12):
            with self.subTest(many=web.many(), ties=web.ties()):
                self.assertEqual(beneath_among(web, Folded(web).kernel()), [])

    def test_shadows_of_near_points_are_near(self):
        for web in mixed_webs(12):
            folded = Folded(web)
            for one in range(web.many()):
                for other in web.near(one):
                    self.assertIn(folded.shadow(other), web.near(folded.shadow(one)))

    def test_each_part_has_points_of_the_kernel_for_shadows(self):
        for web in mixed_webs(12):
            folded = Folded(web)
            for part in web.parts():
                for point in part:
                    self.assertIn(folded.shadow(point), set(part) & set(folded.kernel()))


class RefugeTest(RefusalCase):
    def assert_refuges(self, web):
        folded = Folded(web)
        kernel = folded.kernel()
        for hider in range(web.many()):
            for seeker in range(web.many()):
                shadow = folded.shadow(seeker)
                with self.subTest(many=web.many(), ties=web.ties(), hider=hider, seeker=seeker):
                    if hider not in kernel or hider == shadow:
                        self.refused(BadStanding, folded.refuge, hider, seeker)
                    else:
                        told = folded.refuge(hider, seeker)
                        self.assertIs(type(told), int)
                        self.assertEqual(told, expected_refuge(web, kernel, hider, shadow))

    def test_a_ring(self):
        folded = Folded(ring(5))
        self.assertEqual(folded.refuge(1, 0), 2)
        self.assertEqual(folded.refuge(2, 0), 2)
        self.assertEqual(folded.refuge(2, 1), 3)
        self.assertEqual(folded.refuge(0, 2), 0)
        self.assertEqual(folded.refuge(3, 1), 3)
        self.assertEqual(folded.refuge(3, 0), 2)

    def test_from_the_shadow_not_from_the_seeker(self):
        # The seeker is at the tail 4, its shadow is at 0.
        folded = Folded(web_with(5, ring(4).ties() + [(0, 4)]))
        self.assertEqual(folded.refuge(1, 4), 2)
        self.assertEqual(folded.refuge(2, 4), 2)
        self.refused(BadStanding, folded.refuge, 0, 4)
        self.refused(BadStanding, folded.refuge, 4, 2)

    def test_only_points_of_the_kernel(self):
        # The tail 0 is near the hider and out of reach, but went.
        folded = Folded(web_with(5, [(1, 2), (2, 3), (3, 4), (4, 1), (0, 2)]))
        self.assertEqual(folded.kernel(), [1, 2, 3, 4])
        self.assertEqual(folded.refuge(2, 1), 3)
        self.assertEqual(folded.refuge(2, 4), 2)

    def test_another_part(self):
        folded = Folded(web_with(4, [(0, 1), (2, 3)]))
        self.assertEqual(folded.refuge(1, 2), 1)
        self.assertEqual(folded.refuge(3, 0), 3)

    def test_one_point(self):
        self.refused(BadStanding, Folded(Web(1)).refuge, 0, 0)

    def test_by_keyword(self):
        self.assertEqual(Folded(ring(4)).refuge(seeker=0, hider=1), 2)

    def test_every_small_web(self):
        for many in range(1, 5):
            for web in every_web(many):
                self.assert_refuges(web)

    def test_webs_of_all_sizes(self):
        for web in mixed_webs(12):
            self.assert_refuges(web)

    def test_who_goes_by_refuge_is_never_at_the_shadow(self):
        for web in mixed_webs(10):
            folded = Folded(web)
            for hider in folded.kernel():
                for seeker in range(web.many()):
                    if hider != folded.shadow(seeker):
                        told = folded.refuge(hider, seeker)
                        self.assertIn(told, folded.kernel())
                        self.assertIn(told, web.near(hider))
                        for point in web.near(seeker):
                            self.assertNotEqual(folded.shadow(point), told)
                            self.assertNotEqual(point, told)


class NoPointTest(RefusalCase):
    def setUp(self):
        # The ring 0 to 3 is the kernel, 4 is a tail.
        self.web = web_with(5, ring(4).ties() + [(0, 4)])
        self.folded = Folded(self.web)
        self.before = fold_told(self.folded, 5)

    def no_point(self, call, *points):
        self.refused(NoPoint, call, *points)
        self.assertEqual(fold_told(self.folded, 5), self.before)

    def test_shadow(self):
        for name, thing in no_points(5):
            with self.subTest(name):
                self.no_point(self.folded.shadow, thing)

    def test_refuge_ahead_of_bad_standing(self):
        for name, thing in no_points(5):
            with self.subTest(name):
                self.no_point(self.folded.refuge, thing, 0)
                self.no_point(self.folded.refuge, thing, 4)
                self.no_point(self.folded.refuge, 1, thing)
                self.no_point(self.folded.refuge, 4, thing)
                self.no_point(self.folded.refuge, thing, thing)

    def test_true_and_false_are_no_points(self):
        # Taken for 1 and 0 they would find a refuge, or a bad standing.
        for points in [(True, 0), (1, False), (False, 0), (0, False), (True, False)]:
            with self.subTest(points):
                self.no_point(self.folded.refuge, *points)

    def test_the_bound_is_that_of_each_web(self):
        for many in range(1, 13):
            folded = Folded(Web(many))
            self.assertEqual(folded.shadow(many - 1), many - 1)
            self.refused(NoPoint, folded.shadow, many)
            self.refused(NoPoint, folded.refuge, many, 0)
            self.refused(NoPoint, folded.refuge, 0, many)

    def test_handed_in_lists_are_not_changed(self):
        rows = [1, [2]]
        self.no_point(self.folded.shadow, rows)
        self.no_point(self.folded.refuge, rows, 0)
        self.no_point(self.folded.refuge, 1, rows)
        self.assertEqual(rows, [1, [2]])


class StaysTest(unittest.TestCase):
    def test_told_again_after_the_lists_were_changed(self):
        for web in mixed_webs(6):
            folded = Folded(web)
            before = fold_told(folded, web.many())
            folded.row().append((9, 9))
            folded.kernel().append(9)
            folded.row().clear()
            folded.kernel().clear()
            self.assertEqual(fold_told(folded, web.many()), before)

    def test_lists_told_earlier_stay(self):
        folded = Folded(path(3))
        row, kernel = folded.row(), folded.kernel()
        folded.row().clear()
        folded.kernel().clear()
        self.assertEqual((row, kernel), ([(0, 1), (1, 2)], [2]))

    def test_told_again_after_the_web_was_changed(self):
        for web in mixed_webs(8):
            many = web.many()
            folded = Folded(web)
            expected = expected_fold(web)
            kernel, shadows = expected[1], expected[2]
            places = [(hider, point) for hider in kernel for point in range(many) if hider != shadows[point]]
            refuges = [expected_refuge(web, kernel, hider, shadows[point]) for hider, point in places]
            changed(web)
            with self.subTest(many=many, ties=web.ties()):
                self.assertEqual(fold_told(folded, many), expected)
                self.assertEqual([folded.refuge(hider, point) for hider, point in places], refuges)
                self.assertEqual(fold_told(Folded(web), many), expected_fold(web))

    def test_the_web_stays_as_it_is(self):
        for web in mixed_webs(6):
            before = all_told(web)
            folded = Folded(web)
            fold_told(folded, web.many())
            self.assertEqual(all_told(web), before)

    def test_two_foldings_do_not_touch_one_another(self):
        first = Folded(path(4))
        second = Folded(ring(4))
        self.assertEqual(fold_told(first, 4), expected_fold(path(4)))
        self.assertEqual(fold_told(second, 4), expected_fold(ring(4)))
        self.assertEqual(second.refuge(1, 0), 2)
        self.assertEqual(fold_told(first, 4), expected_fold(path(4)))


if __name__ == "__main__":
    unittest.main()
