"""A watch: its fires, its engines, the right plans, and the calls on it."""

BEGINS = 0
ENGINE = 1
SOONEST = 2

MOST_FIRES = 4
MOST_NEEDED = 6
MOST_ENGINES = 6
NO_WAY = 1001

WRONG_NUMBERS = -1
NO_ROOM = -5
NO_RIGHT_PLAN = -6


class UnknownCall(Exception):
    pass


class Watch:
    def __init__(self):
        self.needs = []
        self.engines = []

    def begins(self, needs):
        if len(needs) > MOST_FIRES or has_above(needs, MOST_NEEDED):
            return [WRONG_NUMBERS]
        self.needs = list(needs)
        self.engines = []
        return [0]

    def engine(self, minutes):
        if len(minutes) != len(self.needs) or has_above(minutes, NO_WAY):
            return [WRONG_NUMBERS]
        if len(self.engines) == MOST_ENGINES:
            return [NO_ROOM]
        self.engines.append(list(minutes))
        return [len(self.engines) - 1]

    def soonest(self):
        plans = right_plans(self.needs, self.engines)
        if len(plans) == 0:
            return [NO_RIGHT_PLAN]
        ranks = [last_and_driven(plan, self.engines) for plan in plans]
        best = min(ranks)
        # The plans come earliest first, so the first of the best is the earliest of them.
        return list(best) + [ranks.count(best)] + plans[ranks.index(best)]


def has_above(numbers, most):
    return max(numbers, default=0) > most


def right_plans(needs, engines):
    spare = len(engines) - sum(needs)
    if spare < 0:
        return []
    # Staying counts as one more place, which wants just the spare engines: then all places together
    # want as many as there are, so when each engine has its place each fire has just what it needs.
    wanted = needs + [spare]
    plans = [[]]
    for minutes in engines:
        longer = []
        for plan in plans:
            longer.extend(plans_one_longer(plan, wanted, minutes))
        plans = longer
    return plans


def plans_one_longer(plan, wanted, minutes):
    # The places are tried rising, which keeps the plans in order, the earlier ones first.
    return [plan + [place] for place in range(len(wanted))
            if plan.count(place) < wanted[place] and can_take(place, minutes)]


def can_take(place, minutes):
    return stays(place, minutes) or minutes[place] != NO_WAY


def stays(place, minutes):
    return place == len(minutes)


def last_and_driven(plan, engines):
    taken = [minutes[place] for place, minutes in zip(plan, engines) if not stays(place, minutes)]
    return (max(taken, default=0), sum(taken))


def answers(calls):
    watch = Watch()
    answered = []
    at = 0
    while at < len(calls):
        call = calls[at]
        row = row_behind(calls, at) if has_row(call) else []
        answer = answer_of(watch, call, row)
        answered.append(len(answer))
        answered.extend(answer)
        at = at + 1
        if has_row(call):
            at = at + 1 + len(row)
    return answered


def has_row(call):
    return call == BEGINS or call == ENGINE


def row_behind(calls, at):
    first = at + 2
    return calls[first:first + calls[at + 1]]


def answer_of(watch, call, row):
    if call == BEGINS:
        return watch.begins(row)
    if call == ENGINE:
        return watch.engine(row)
    if call == SOONEST:
        return watch.soonest()
    raise UnknownCall(f"no call has the number {call}")
