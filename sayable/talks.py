"""Talks: phrases by which goals are picked in their order, at the least price."""

from heapq import heappop, heappush

from sayable.papers import Denial, Paper
from sayable.talking import TalkWeb, told_talking


class Talk(Paper):
    """Phrases that are a talk, their price, and bounds that show that none costs less."""

    def __init__(self, phrases, price, prices):
        Paper.__init__(self, "talk", phrases, price, prices)
        self.phrases, self.price, self.prices = self.parts


class Speechless(Denial):
    """Shut states, the beginning among them: so there is no talk."""

    def __init__(self, standings):
        Denial.__init__(self, "speechless", standings)
        self.standings = self.parts[0]


def cheapest_talk(rooms, priced, goals):
    """A Talk of the least price, if there is one; otherwise a Speechless."""
    talking = told_talking(rooms, priced, goals)
    web = TalkWeb(talking)
    costs, steps = _least_costs(web)
    if 0 not in costs:
        return Speechless([(state[0], talking.told_standing(state)) for state in web.states])
    phrases = []
    at = 0
    while at in steps:
        phrase, at = steps[at]
        phrases.append(phrase)
    return Talk(phrases, costs[0], _bounds(web, costs))


def _least_costs(web):
    """For each state that leads to an end the least price at which it does, and its next phrase and state."""
    ahead = [[] for _ in web.states]
    for number, spoken in enumerate(web.moves):
        for phrase, after in spoken:
            ahead[after].append((number, phrase))
    costs = {number: 0 for number, state in enumerate(web.states) if web.talking.is_end(state)}
    steps = {}
    queue = [(0, number) for number in costs]
    done = set()
    while queue:
        cost, now = heappop(queue)
        if now not in done:
            done.add(now)
            for number, phrase in ahead[now]:
                more = cost + web.talking.prices[phrase]
                if number not in costs or more < costs[number]:
                    costs[number] = more
                    steps[number] = (phrase, now)
                    heappush(queue, (more, number))
    return costs, steps


def _bounds(web, costs):
    """Rows for the beginning, and for all states whose number is not 0: no greater than the price of the talk."""
    rows = []
    for number, state in enumerate(web.states):
        bound = min(costs[0], costs.get(number, costs[0]))
        if number == 0 or bound:
            rows.append((state[0], web.talking.told_standing(state), bound))
    return rows
