"""Hunts worked out anew from the words of the document, to be compared with the program."""

from itertools import combinations_with_replacement, product

SEEK = "seek"
HIDE = "hide"


def all_seekers(many, count):
    return list(combinations_with_replacement(range(many), count))


def all_standings(many, count):
    return list(product(all_seekers(many, count), range(many), (SEEK, HIDE)))


def is_caught(standing):
    return standing[1] in standing[0]


def following(web, standing):
    """All standings to which this one may lead, rising."""
    seekers, hider, turn = standing
    if turn == HIDE:
        return [(seekers, point, SEEK) for point in web.near(hider)]
    goals = {tuple(sorted(goal)) for goal in product(*(web.near(point) for point in seekers))}
    return [(goal, hider, HIDE) for goal in sorted(goals)]


def all_numbers(web, count):
    """The numbers of all standings, None where there is none, from the least number up."""
    standings = all_standings(web.many(), count)
    ways = {standing: following(web, standing) for standing in standings}
    numbers = {standing: 0 if is_caught(standing) else None for standing in standings}
    for number in range(1, len(standings) + 1):
        seeking = [at for at in standings if at[2] == SEEK and numbers[at] is None]
        caught = [at for at in seeking if any(numbers[to] is not None for to in ways[at])]
        if not caught:
            break
        numbers.update({at: number for at in caught})
        hiding = [at for at in standings if at[2] == HIDE and numbers[at] is None]
        shut_in = [at for at in hiding if all(numbers[to] is not None for to in ways[at])]
        numbers.update({at: number for at in shut_in})
    return numbers


def worth(number):
    """Makes None greater than all numbers."""
    return 10**9 if number is None else number


class Words:
    """All answers of a hunt, by its numbers."""

    def __init__(self, web, count):
        self.web = web
        self.many = web.many()
        self.count = count
        self.numbers = all_numbers(web, count)

    def goes(self, standing):
        ways = following(self.web, standing)
        least = min(worth(self.numbers[way]) for way in ways)
        return min(way[0] for way in ways if worth(self.numbers[way]) == least)

    def hides(self, standing):
        return self._best(following(self.web, standing))

    def _best(self, ways):
        greatest = max(worth(self.numbers[way]) for way in ways)
        return min(way[1] for way in ways if worth(self.numbers[way]) == greatest)

    def start(self):
        choices = {}
        for seekers in all_seekers(self.many, self.count):
            choices[seekers] = [(seekers, hider, SEEK) for hider in range(self.many)]
        worst = {seekers: max(worth(self.numbers[way]) for way in choices[seekers]) for seekers in choices}
        seekers = min(seekers for seekers in choices if worst[seekers] == min(worst.values()))
        return (seekers, self._best(choices[seekers]), SEEK)

    def game(self, standing, most):
        row = [standing]
        for _ in range(most):
            seekers, hider, turn = row[-1]
            if is_caught(row[-1]):
                break
            if turn == SEEK:
                row.append((self.goes(row[-1]), hider, HIDE))
            else:
                row.append((seekers, self.hides(row[-1]), SEEK))
        return row


def all_answers(hunt, web, count):
    """All that a hunt tells of its standings, and of its start."""
    answers = {"start": hunt.start()}
    for standing in all_standings(web.many(), count):
        answers[("number", standing)] = hunt.number(standing)
        if not is_caught(standing):
            answers[("way", standing)] = hunt.goes(standing) if standing[2] == SEEK else hunt.hides(standing)
    return answers


def expected_answers(web, count):
    """The same from the words of the document."""
    words = Words(web, count)
    answers = {"start": words.start()}
    for standing in all_standings(web.many(), count):
        answers[("number", standing)] = words.numbers[standing]
        if not is_caught(standing):
            answers[("way", standing)] = words.goes(standing) if standing[2] == SEEK else words.hides(standing)
    return answers
