"""The words of the document once more, gone through slowly, to hold the program against."""

import functools
import itertools

LATEST = 16


class MinuteByMinute:
    """The sand, watched a minute at a time."""

    def __init__(self, runs, above=None):
        self.above = list(above or [0] * len(runs))
        self.below = [run - sand for run, sand in zip(runs, self.above)]
        self.clock = 0

    def turn(self, step):
        for number in range(len(self.above)):
            if step // 2 ** number % 2:
                self.above[number], self.below[number] = self.below[number], self.above[number]

    def wait(self):
        """Whether a glass has run out: False if none was running."""
        running = [number for number, sand in enumerate(self.above) if sand]
        while running:
            self.clock += 1
            for number in running:
                self.above[number] -= 1
                self.below[number] += 1
            if any(self.above[number] == 0 for number in running):
                return True
        return False


def watched(runs, plan):
    if any(step >= 2 ** len(runs) for step in plan):
        return [-1]
    table = MinuteByMinute(runs)
    behind = []
    for place, step in enumerate(plan):
        table.turn(step)
        if not table.wait():
            return [-6, place]
        behind.append(table.clock)
    return [table.clock] + behind + table.above


@functools.lru_cache(maxsize=None)
def ways(runs, above):
    """Each step that can be done: the step, how long it takes and what is above behind it."""
    found = []
    for step in range(2 ** len(runs)):
        table = MinuteByMinute(runs, above)
        table.turn(step)
        if table.wait():
            found.append((step, table.clock, tuple(table.above)))
    return found


class EveryPlan:
    """Answers from the row of all plans up to 16 minutes, one by one: for tables that have few."""

    def __init__(self, runs):
        self.runs = tuple(runs)
        self.plans = []
        self.collect([], [0], (0,) * len(self.runs))

    def collect(self, plan, clocks, above):
        self.plans.append((plan, clocks))
        for step, minutes, behind in ways(self.runs, above):
            if clocks[-1] + minutes <= LATEST:
                self.collect(plan + [step], clocks + [clocks[-1] + minutes], behind)

    def tells(self, time):
        telling = [(len(plan), plan) for plan, clocks in self.plans if clocks[-1] == time]
        if time > LATEST:
            return [-1]
        if not telling:
            return [-6]
        fewest, earliest = min(telling)
        return [fewest] + earliest

    def times(self):
        told = {clocks[-1] for plan, clocks in self.plans}
        return [len(told)] + sorted(told)

    def soonest(self, time):
        if time > LATEST:
            return [-1]
        over = [clock for plan, clocks in self.plans for clock in clocks if clock - time in clocks]
        return [min(over, default=-6)]


def count_of_plans(runs):
    @functools.lru_cache(maxsize=None)
    def count(above, left):
        return 1 + sum(count(behind, left - minutes) for step, minutes, behind in ways(runs, above) if minutes <= left)
    return count((0,) * len(runs), LATEST)


class EveryEnd:
    """Answers by looking, from some sand above, at what can still come: for tables that have too many plans."""

    def __init__(self, runs):
        self.runs = tuple(runs)
        self.beginning = (0,) * len(self.runs)
        self.best = functools.lru_cache(maxsize=None)(self.best)
        self.can_begin = functools.lru_cache(maxsize=None)(self.can_begin)

    def best(self, above, left):
        """The fewest steps that take just what is left, with the earliest that are as few."""
        if left == 0:
            return 0, ()
        ends = [(step, self.best(behind, left - minutes))
                for step, minutes, behind in ways(self.runs, above) if minutes <= left]
        return min([(1 + end[0], (step,) + end[1]) for step, end in ends if end], default=None)

    def can_begin(self, above, wait, time):
        """Whether the time can be told from a step on that lies just so far ahead."""
        if wait == 0:
            return self.best(above, time) is not None
        return any(minutes <= wait and self.can_begin(behind, wait - minutes, time)
                   for step, minutes, behind in ways(self.runs, above))

    def tells(self, time):
        if time > LATEST:
            return [-1]
        found = self.best(self.beginning, time)
        return [found[0], *found[1]] if found else [-6]

    def times(self):
        told = [time for time in range(LATEST + 1) if self.best(self.beginning, time)]
        return [len(told)] + told

    def soonest(self, time):
        if time > LATEST:
            return [-1]
        waits = [wait for wait in range(LATEST - time + 1) if self.can_begin(self.beginning, wait, time)]
        return [waits[0] + time] if waits else [-6]


FEW_PLANS = 6000


@functools.lru_cache(maxsize=None)
def by_ends(runs):
    return EveryEnd(runs)


@functools.lru_cache(maxsize=None)
def searched(runs):
    return EveryPlan(runs) if count_of_plans(runs) <= FEW_PLANS else by_ends(runs)


def all_tables(most=3):
    return [runs for size in range(most + 1) for runs in itertools.product(range(1, 10), repeat=size)]


class SlowTable:
    """The six calls, answered slowly."""

    def __init__(self):
        self.runs = ()

    def answer(self, call):
        number, numbers = call[0], call[2:2 + call[1]]
        return [self.begins, self.glass, self.goes, self.tells, self.times, self.soonest][number](*numbers)

    def begins(self):
        self.runs = ()
        return [0]

    def glass(self, minutes):
        if minutes not in range(1, 10):
            return [-1]
        if len(self.runs) == 3:
            return [-5]
        self.runs += (minutes,)
        return [len(self.runs) - 1]

    def goes(self, *plan):
        return watched(self.runs, plan)

    def tells(self, time):
        return searched(self.runs).tells(time)

    def times(self):
        return searched(self.runs).times()

    def soonest(self, time):
        return searched(self.runs).soonest(time)
