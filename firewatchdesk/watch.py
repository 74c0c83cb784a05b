"""A watch: its fires, its engines, the right plans, and the calls on it."""

BEGINS = 0
ENGINE = 1
SOONEST = 2
LEAST = 3
CHECK = 4
WHY = 5

MOST_FIRES = 4
MOST_NEEDED = 6
MOST_ENGINES = 6
MOST_MINUTES = 1000
NO_WAY = 1001

WRONG_NUMBERS = -1
NO_ROOM = -5
NO_RIGHT_PLAN = -6
SENT_WITHOUT_WAY = -6
WRONGLY_SENT = -7


class UnknownCall(Exception):
    pass


class Watch:
    def __init__(self):
        self.needs = []
        self.engines = []

    def begins(self, needs):
        if len(needs) > MOST_FIRES or has_above(needs, MOST_NEEDED):
            return [WRONG_NUMBERS]
        self.needs = list(needs)
        self.engines = []
        return [0]

    def engine(self, minutes):
        if len(minutes) != len(self.needs) or has_above(minutes, NO_WAY):
            return [WRONG_NUMBERS]
        if len(self.engines) == MOST_ENGINES:
            return [NO_ROOM]
        self.engines.append(list(minutes))
        return [len(self.engines) - 1]

    def soonest(self):
        plans = right_plans(self.needs, self.engines)
        return best_of(plans, [(last_one(plan, self.engines), driven(plan, self.engines)) for plan in plans])

    def least(self):
        plans = right_plans(self.needs, self.engines)
        return best_of(plans, [(driven(plan, self.engines), last_one(plan, self.engines)) for plan in plans])

    def check(self, plan):
        if len(plan) != len(self.engines) or has_above(plan, len(self.needs)):
            return [WRONG_NUMBERS]
        fault = fault_of(plan, self.needs, self.engines)
        if len(fault) > 0:
            return fault
        return [last_one(plan, self.engines), driven(plan, self.engines)]

    def why(self, minutes):
        if minutes > MOST_MINUTES:
            return [WRONG_NUMBERS]
        near = [fires_within(ways, minutes) for ways in self.engines]
        shorts = [short_by(group, self.needs, near) for group in range(1 << len(self.needs))]
        most = max(shorts)
        # The groups stand rising, so the first of those that are most short has the lowest number.
        shortest = shorts.index(most)
        return [most, shortest] + engines_for(shortest, near)


def has_above(numbers, most):
    return max(numbers, default=0) > most


def right_plans(needs, engines):
    spare = len(engines) - sum(needs)
    if spare < 0:
        return []
    # Staying counts as one more place, which wants just the spare engines: then all places together
    # want as many as there are, so when each engine has its place each fire has just what it needs.
    wanted = needs + [spare]
    plans = [[]]
    for minutes in engines:
        longer = []
        for plan in plans:
            longer.extend(plans_one_longer(plan, wanted, minutes))
        plans = longer
    return plans


def plans_one_longer(plan, wanted, minutes):
    # The places are tried rising, which keeps the plans in order, the earlier ones first.
    return [plan + [place] for place in range(len(wanted))
            if plan.count(place) < wanted[place] and can_take(place, minutes)]


def can_take(place, minutes):
    return stays(place, minutes) or minutes[place] != NO_WAY


def stays(place, minutes):
    return place == len(minutes)


def best_of(plans, ranks):
    if len(plans) == 0:
        return [NO_RIGHT_PLAN]
    best = min(ranks)
    # The plans come earliest first, so the first of the best is the earliest of them.
    return list(best) + [ranks.count(best)] + plans[ranks.index(best)]


def last_one(plan, engines):
    return max(minutes_taken(plan, engines), default=0)


def driven(plan, engines):
    return sum(minutes_taken(plan, engines))


def minutes_taken(plan, engines):
    return [minutes[place] for place, minutes in zip(plan, engines) if not stays(place, minutes)]


def fault_of(plan, needs, engines):
    for number, minutes in enumerate(engines):
        if not can_take(plan[number], minutes):
            return [SENT_WITHOUT_WAY, number]
    for fire, need in enumerate(needs):
        sent = plan.count(fire)
        if sent != need:
            return [WRONGLY_SENT, fire, sent]
    return []


def fires_within(ways, minutes):
    # No time that is asked for reaches NO_WAY, so a fire without a way is never among them.
    return [fire for fire, way in enumerate(ways) if way <= minutes]


def short_by(group, needs, near):
    needed = sum([need for fire, need in enumerate(needs) if is_in(fire, group)])
    return max(0, needed - len(engines_for(group, near)))


def engines_for(group, near):
    return [number for number, fires in enumerate(near) if any([is_in(fire, group) for fire in fires])]


def is_in(fire, group):
    return (group >> fire) % 2 == 1


def answers(calls):
    watch = Watch()
    answered = []
    at = 0
    while at < len(calls):
        behind = end_of_call(calls, at)
        answer = answer_of(watch, calls[at:behind])
        answered.append(len(answer))
        answered.extend(answer)
        at = behind
    return answered


def end_of_call(calls, at):
    if calls[at] in (BEGINS, ENGINE, CHECK):
        return at + 2 + calls[at + 1]
    if calls[at] == WHY:
        return at + 2
    return at + 1


def answer_of(watch, call):
    kind = call[0]
    if kind == BEGINS:
        return watch.begins(call[2:])
    if kind == ENGINE:
        return watch.engine(call[2:])
    if kind == SOONEST:
        return watch.soonest()
    if kind == LEAST:
        return watch.least()
    if kind == CHECK:
        return watch.check(call[2:])
    if kind == WHY:
        return watch.why(call[1])
    raise UnknownCall(f"no call has the number {kind}")
