"""Hunts: how long one who hides keeps away from those who seek, and how each goes."""

from cornerhunt.errors import BadCount, BadStanding, TooMany
from cornerhunt.webs import is_point, is_whole

SEEK = "seek"
HIDE = "hide"
MOST_POINTS_FOR_TWO = 8
MOST_STEPS = 100


def rising_tuples(choices):
    """Tell all tuples of one point out of each list, each one rising, in order."""
    rows = [()]
    for points in choices:
        rows = [row + (point,) for row in rows for point in points]
    return sorted({tuple(sorted(row)) for row in rows})


def is_caught(standing):
    """Tell whether a seeker is at the hider's point."""
    return standing[1] in standing[0]


def rank_of(number):
    """Tell what stands for a number in comparisons: None is greater than all others."""
    return (1, 0) if number is None else (0, number)


class Numbering:
    """Works out the numbers of all standings, from the caught ones back.

    Near goes both ways, so the points from which one may have come are those
    to which one may go.
    """

    def __init__(self, near, moves):
        self._near = near
        self._moves = moves
        self._numbers = {}
        self._numbered = []
        self._ways = {}

    def worked_out(self):
        """Tell the number of each standing that has one."""
        self._number_caught()
        done = 0
        while done < len(self._numbered):
            seekers, hider, turn = self._numbered[done]
            number = self._numbers[(seekers, hider, turn)]
            if turn == SEEK:
                self._close(seekers, hider, number)
            else:
                self._reach(seekers, hider, number + 1)
            done += 1
        return self._numbers

    def _number_caught(self):
        # Those at "seek" first: so the numbers rise along the list to its end,
        # and at "hide" the last way out that gets a number has the greatest.
        for turn in (SEEK, HIDE):
            for seekers in self._moves:
                for hider in seekers:
                    self._give((seekers, hider, turn), 0)

    def _close(self, seekers, goal, number):
        """Take note that the hider's way to this goal has a number."""
        for hider in self._near[goal]:
            left = self._ways.get((seekers, hider), len(self._near[hider])) - 1
            self._ways[(seekers, hider)] = left
            if left == 0:
                self._give((seekers, hider, HIDE), number)

    def _reach(self, goal, hider, number):
        """Number the standings at which the seekers may go to this goal."""
        for seekers in self._moves[goal]:
            self._give((seekers, hider, SEEK), number)

    def _give(self, standing, number):
        # The first number is the least one, and a caught standing keeps its 0.
        if standing not in self._numbers:
            self._numbers[standing] = number
            self._numbered.append(standing)


class Hunt:
    """One or two seekers and a hider on a web as it was."""

    def __init__(self, web, count=1):
        if not is_whole(count) or count not in (1, 2):
            raise BadCount("one or two seek")
        if count == 2 and web.many() > MOST_POINTS_FOR_TWO:
            raise TooMany("two seek on at most 8 points")
        points = list(range(web.many()))
        self._count = count
        self._near = [web.near(point) for point in points]
        self._moves = {}
        for seekers in rising_tuples([points] * count):
            self._moves[seekers] = rising_tuples([self._near[point] for point in seekers])
        self._numbers = Numbering(self._near, self._moves).worked_out()

    def number(self, standing):
        """Tell how many times the seekers go at most, or None where the hider keeps away."""
        self._need_standing(standing)
        return self._numbers.get(standing)

    def goes(self, standing):
        """Tell the tuple of points to which the seekers go."""
        self._need_turn(standing, SEEK)
        seekers, hider, _ = standing
        goals = [(self._rank((goal, hider, HIDE)), goal) for goal in self._moves[seekers]]
        return min(goals)[1]

    def hides(self, standing):
        """Tell the point to which the hider goes."""
        self._need_turn(standing, HIDE)
        seekers, hider, _ = standing
        return self._best_for_hider(seekers, self._near[hider])

    def start(self):
        """Tell the standing with which the hunt begins."""
        points = list(range(len(self._near)))
        choices = [(self._worst_of(chosen, points), chosen) for chosen in self._moves]
        seekers = min(choices)[1]
        return (seekers, self._best_for_hider(seekers, points), SEEK)

    def game(self, standing, most):
        """Tell this standing and those that follow, till one is caught or so many have followed."""
        self._need_standing(standing)
        if not is_whole(most) or not 0 <= most <= MOST_STEPS:
            raise BadCount("0 to 100 standings may follow")
        row = [standing]
        while len(row) <= most and not is_caught(row[-1]):
            row.append(self._following(row[-1]))
        return row

    def _following(self, standing):
        seekers, hider, turn = standing
        if turn == SEEK:
            return (self.goes(standing), hider, HIDE)
        return (seekers, self.hides(standing), SEEK)

    def _worst_of(self, seekers, points):
        return max([self._rank((seekers, point, SEEK)) for point in points])

    def _best_for_hider(self, seekers, points):
        # The points rise, and max takes the first of several.
        return max(points, key=lambda point: self._rank((seekers, point, SEEK)))

    def _rank(self, standing):
        return rank_of(self._numbers.get(standing))

    def _need_turn(self, standing, turn):
        self._need_standing(standing)
        if standing[2] != turn or is_caught(standing):
            raise BadStanding("the hider is caught, or it is the other one's turn")

    def _need_standing(self, standing):
        # The message leaves out what was handed in: showing it might fail.
        if not self._is_standing(standing):
            raise BadStanding("this is no standing of the hunt")

    def _is_standing(self, standing):
        if type(standing) is not tuple or len(standing) != 3:
            return False
        seekers, hider, turn = standing
        if not self._are_seekers(seekers) or not self._is_point(hider):
            return False
        return type(turn) is str and turn in (SEEK, HIDE)

    def _are_seekers(self, seekers):
        if type(seekers) is not tuple or len(seekers) != self._count:
            return False
        # Each is looked at by its kind first: True would pass for 1.
        return all([self._is_point(point) for point in seekers]) and seekers in self._moves

    def _is_point(self, point):
        return is_point(point, len(self._near))
