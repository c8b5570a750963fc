"""Folding: a web goes point by point, till its kernel is left."""

from cornerhunt.errors import BadStanding, NoPoint
from cornerhunt.webs import is_point


def is_beneath(web, points, one, other):
    """Tell whether the one lies beneath the other among these points of the web."""
    near_other = web.near(other)
    return all([point in near_other for point in web.near(one) if point in points])


def next_fold(web, left):
    """Tell the next point to go and the one beneath which it goes, or None."""
    # The points that are left rise, so the first pair found is the least.
    for one in left:
        for other in left:
            if one != other and is_beneath(web, left, one, other):
                return one, other
    return None


def all_folds(web):
    """Tell each point that goes and the one beneath which it goes, in order."""
    left = list(range(web.many()))
    folds = []
    fold = next_fold(web, left)
    while fold is not None:
        folds.append(fold)
        left.remove(fold[0])
        fold = next_fold(web, left)
    return folds


def all_shadows(many, folds):
    """Tell the shadow of each point, by its place in the list."""
    shadows = list(range(many))
    # From the last fold back, for where a point went another may yet go.
    for gone, above in reversed(folds):
        shadows[gone] = shadows[above]
    return shadows


class Folded:
    """A web as it was, folded to its kernel."""

    def __init__(self, web):
        points = range(web.many())
        self._near = [web.near(point) for point in points]
        self._row = all_folds(web)
        self._shadows = all_shadows(web.many(), self._row)
        self._kernel = [point for point in points if self._shadows[point] == point]

    def row(self):
        """Tell each point that went and the one beneath which it went, in order."""
        return list(self._row)

    def kernel(self):
        """Tell the points that were left at last, rising."""
        return list(self._kernel)

    def shadow(self, point):
        """Tell the point of the kernel that stands for this point."""
        self._need_point(point)
        return self._shadows[point]

    def refuge(self, hider, seeker):
        """Tell the least point of the kernel to which the hider may go, out of the shadow's reach."""
        self._need_point(hider)
        self._need_point(seeker)
        shadow = self._shadows[seeker]
        if hider not in self._kernel or hider == shadow:
            raise BadStanding("the hider is not in the kernel, or at the seeker's shadow")
        # There is one, for no point of the kernel lies beneath another one.
        return min([point for point in self._near[hider] if self._is_safe(point, shadow)])

    def _is_safe(self, point, shadow):
        return point in self._kernel and point not in self._near[shadow]

    def _need_point(self, point):
        # The message leaves out what was handed in: showing it might fail.
        if not is_point(point, len(self._near)):
            raise NoPoint("the web has no such point")
