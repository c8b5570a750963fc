"""Webs: points numbered from nought, and ties between them."""

from cornerhunt.errors import BadTie, BadWeb, NoPoint

MOST_POINTS = 12


def is_whole(value):
    """Tell whether this is a whole number; True and False are none."""
    # Only the exact kind: isinstance would let True and False through.
    return type(value) is int


def is_point(value, many):
    """Tell whether this is a point of a web of so many points."""
    return is_whole(value) and 0 <= value < many


class Web:
    """Some points, and ties that are put in and taken out between them."""

    def __init__(self, many):
        if not is_whole(many) or many < 1 or many > MOST_POINTS:
            raise BadWeb("a web has 1 to 12 points")
        self._many = many
        self._tied = [[False] * many for point in range(many)]

    def many(self):
        """Tell how many points there are."""
        return self._many

    def tie(self, one, other):
        """Put in the tie between two points."""
        self._need_unlike(one, other)
        if self._tied[one][other]:
            raise BadTie("the tie is there already")
        self._mark(one, other, True)

    def untie(self, one, other):
        """Take out the tie between two points."""
        self._need_unlike(one, other)
        if not self._tied[one][other]:
            raise BadTie("the tie is not there")
        self._mark(one, other, False)

    def is_tied(self, one, other):
        """Tell whether there is a tie between two points."""
        self._need_point(one)
        self._need_point(other)
        return self._tied[one][other]

    def ties(self):
        """Tell all ties, each as (lesser point, greater point), rising."""
        points = range(self._many)
        return [(low, high) for low in points for high in points if low < high and self._tied[low][high]]

    def near(self, point):
        """Tell the point itself and all points to which it is tied, rising."""
        self._need_point(point)
        return [other for other in range(self._many) if other == point or self._tied[point][other]]

    def parts(self):
        """Tell the points of each part, rising, the parts by their least points."""
        parts = []
        placed = []
        for point in range(self._many):
            if point not in placed:
                part = self._part_of(point)
                placed.extend(part)
                parts.append(part)
        return parts

    def _part_of(self, point):
        found = [point]
        looked_at = 0
        while looked_at < len(found):
            here = found[looked_at]
            for other in self.near(here):
                if other not in found:
                    found.append(other)
            looked_at += 1
        return sorted(found)

    def _mark(self, one, other, tied):
        self._tied[one][other] = tied
        self._tied[other][one] = tied

    def _need_unlike(self, one, other):
        self._need_point(one)
        self._need_point(other)
        if one == other:
            raise BadTie("a tie is between two unlike points")

    def _need_point(self, point):
        # The message leaves out what was handed in: showing it might fail.
        if not is_point(point, self._many):
            raise NoPoint("the web has no such point")
