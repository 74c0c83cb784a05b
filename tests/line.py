"""Lines of calls written by name, their answers one list a call, and plans judged by the words alone."""

from itertools import product

from firewatchdesk.watch import answers

NO_WAY = 1001
HIGHEST = 4294967295


def begins(*needs):
    return [0, len(needs), *needs]


def engine(*minutes):
    return [1, len(minutes), *minutes]


def soonest():
    return [2]


def watch_line(needs, engines):
    """The calls that make this watch."""
    return [begins(*needs)] + [engine(*minutes) for minutes in engines]


def ask(*calls):
    """The answers to the calls, one list for each call."""
    return split_answers(answers([number for call in calls for number in call]))


def last_answer(*calls):
    return ask(*calls)[-1]


def split_answers(numbers):
    found = []
    at = 0
    while at < len(numbers):
        first = at + 1
        behind = first + numbers[at]
        if behind > len(numbers):
            raise AssertionError("an answer is shorter than its count")
        found.append(numbers[first:behind])
        at = behind
    return found


def judged_plans(needs, engines):
    """(last one, driven, plan) of each right plan, from trying every plan there is."""
    stay = len(needs)
    found = []
    for plan in product(range(stay + 1), repeat=len(engines)):
        if any(plan.count(fire) != need for fire, need in enumerate(needs)):
            continue
        taken = [minutes[fire] for fire, minutes in zip(plan, engines) if fire != stay]
        if NO_WAY not in taken:
            found.append((max(taken, default=0), sum(taken), plan))
    return found


def soonest_by_words(needs, engines):
    judged = judged_plans(needs, engines)
    if not judged:
        return [-6]
    last, driven, plan = min(judged)
    as_good = [one for one in judged if one[:2] == (last, driven)]
    return [last, driven, len(as_good), *plan]
