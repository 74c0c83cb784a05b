"""Lines of calls written by name, their answers one list a call, and the same answers by the words alone."""

from functools import lru_cache
from itertools import combinations, product

from firewatchdesk.watch import answers

NO_WAY = 1001
HIGHEST = 4294967295


def begins(*needs):
    return [0, len(needs), *needs]


def engine(*minutes):
    return [1, len(minutes), *minutes]


def soonest():
    return [2]


def least():
    return [3]


def check(*plan):
    return [4, len(plan), *plan]


def why(minutes):
    return [5, minutes]


def watch_line(needs, engines):
    """The calls that make this watch."""
    return [begins(*needs)] + [engine(*minutes) for minutes in engines]


def ask(*calls):
    """The answers to the calls, one list for each call."""
    return split_answers(answers([number for call in calls for number in call]))


def last_answer(*calls):
    return ask(*calls)[-1]


def split_answers(numbers):
    found = []
    at = 0
    while at < len(numbers):
        first = at + 1
        behind = first + numbers[at]
        if behind > len(numbers):
            raise AssertionError("an answer is shorter than its count")
        found.append(numbers[first:behind])
        at = behind
    return found


def judged_plans(needs, engines):
    """(last one, driven, plan) of each right plan, from trying every plan there is."""
    return judged_once(tuple(needs), tuple(tuple(ways) for ways in engines))


@lru_cache(maxsize=None)
def judged_once(needs, engines):
    stay = len(needs)
    found = []
    for plan in product(range(stay + 1), repeat=len(engines)):
        if any(plan.count(fire) != need for fire, need in enumerate(needs)):
            continue
        taken = [minutes[fire] for fire, minutes in zip(plan, engines) if fire != stay]
        if NO_WAY not in taken:
            found.append((max(taken, default=0), sum(taken), plan))
    return found


def best_by_words(judged):
    """What is answered of plans that are told as (first value, second value, plan)."""
    if not judged:
        return [-6]
    first, second, plan = min(judged)
    as_good = [one for one in judged if one[:2] == (first, second)]
    return [first, second, len(as_good), *plan]


def soonest_by_words(needs, engines):
    return best_by_words(judged_plans(needs, engines))


def least_by_words(needs, engines):
    return best_by_words([(driven, last, plan) for last, driven, plan in judged_plans(needs, engines)])


def check_by_words(needs, engines, plan):
    stay = len(needs)
    if len(plan) != len(engines) or any(place > stay for place in plan):
        return [-1]
    for last, driven, right in judged_plans(needs, engines):
        if right == tuple(plan):
            return [last, driven]
    sent = [(number, fire) for number, fire in enumerate(plan) if fire != stay]
    cut_off = [number for number, fire in sent if engines[number][fire] == NO_WAY]
    if cut_off:
        return [-6, cut_off[0]]
    came = [len([one for one in sent if one[1] == fire]) for fire in range(stay)]
    wrong = [fire for fire in range(stay) if came[fire] != needs[fire]]
    return [-7, wrong[0], came[wrong[0]]]


def why_by_words(needs, engines, minutes):
    if minutes > 1000:
        return [-1]
    found = []
    for size in range(len(needs) + 1):
        for fires in combinations(range(len(needs)), size):
            near = [number for number, ways in enumerate(engines)
                    if any(ways[fire] != NO_WAY and ways[fire] <= minutes for fire in fires)]
            short = max(0, sum(needs[fire] for fire in fires) - len(near))
            found.append((-short, sum(2 ** fire for fire in fires), near))
    short, number, near = min(found)
    return [-short, number, *near]


def line_by_words(calls):
    """The answers to the calls, one list for each call, each from the words alone."""
    needs, engines = [], []
    found = []
    for kind, *numbers in calls:
        row = numbers[1:]
        if kind == 0:
            right = len(row) <= 4 and all(need <= 6 for need in row)
            if right:
                needs, engines = row, []
            found.append([0] if right else [-1])
        elif kind == 1:
            if len(row) != len(needs) or any(minutes > 1001 for minutes in row):
                found.append([-1])
            elif len(engines) == 6:
                found.append([-5])
            else:
                found.append([len(engines)])
                engines = engines + [row]
        elif kind == 2:
            found.append(soonest_by_words(needs, engines))
        elif kind == 3:
            found.append(least_by_words(needs, engines))
        elif kind == 4:
            found.append(check_by_words(needs, engines, row))
        else:
            found.append(why_by_words(needs, engines, numbers[0]))
    return found
