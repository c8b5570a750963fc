"""Webs for the tests, and all that a web tells."""

import random

from cornerhunt.webs import Web


def web_with(many, ties):
    web = Web(many)
    for one, other in ties:
        web.tie(one, other)
    return web


def all_told(web):
    """All that a web tells, to be compared with what it tells later."""
    points = range(web.many())
    return {
        "many": web.many(),
        "ties": web.ties(),
        "near": [web.near(point) for point in points],
        "parts": web.parts(),
        "is_tied": [[web.is_tied(one, other) for other in points] for one in points],
    }


def pairs_of(many):
    return [(low, high) for low in range(many) for high in range(low + 1, many)]


def path(many):
    return web_with(many, [(point, point + 1) for point in range(many - 1)])


def ring(many):
    return web_with(many, [(point, (point + 1) % many) for point in range(many)])


def full(many):
    return web_with(many, pairs_of(many))


def every_web(many):
    """All webs of so many points, one behind the other."""
    pairs = pairs_of(many)
    for bits in range(2 ** len(pairs)):
        yield web_with(many, [pair for place, pair in enumerate(pairs) if bits >> place & 1])


def jumbled(many, seed, tied_of_ten):
    """A web in which about so many of ten pairs are tied; the same for the same numbers."""
    chance = random.Random(seed)
    return web_with(many, [pair for pair in pairs_of(many) if chance.randrange(10) < tied_of_ten])


def mixed_webs(most):
    """Webs of all sizes up to this one: bare, whole, paths, rings and jumbled ones."""
    for many in range(1, most + 1):
        yield Web(many)
        yield full(many)
        yield path(many)
        if many > 2:
            yield ring(many)
        for seed, tied_of_ten in enumerate((1, 2, 3, 4, 5, 6, 8)):
            yield jumbled(many, seed, tied_of_ten)


def mirrored(web):
    """The same web with its points numbered the other way round."""
    last = web.many() - 1
    return web_with(web.many(), [(last - one, last - other) for one, other in web.ties()])


def changed(web):
    """Put in each tie that is not there and take out each that is."""
    for one, other in pairs_of(web.many()):
        if web.is_tied(one, other):
            web.untie(one, other)
        else:
            web.tie(one, other)
