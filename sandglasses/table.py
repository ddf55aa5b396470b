"""A table of sandglasses, and the answers to a line of calls about it."""

from sandglasses.plans import shortest_plan, soonest_over, told_times
from sandglasses.sand import above_at_the_beginning, above_when_turned, above_when_waited, minutes_to_wait

BEGINS = 0
GLASS = 1
GOES = 2
TELLS = 3
TIMES = 4
SOONEST = 5

LONGEST_RUN = 9
MOST_GLASSES = 3
LATEST = 16

OUT_OF_BOUNDS = -1
NO_ROOM = -5
CANNOT_BE_DONE = -6


class UnknownCall(ValueError):
    pass


class Table:
    """Each method named like a call gives back that call's answer, a list of numbers."""

    def __init__(self):
        self.runs = []

    def begins(self):
        self.runs = []
        return [0]

    def glass(self, minutes):
        if minutes < 1 or minutes > LONGEST_RUN:
            return [OUT_OF_BOUNDS]
        if len(self.runs) >= MOST_GLASSES:
            return [NO_ROOM]
        self.runs.append(minutes)
        return [len(self.runs) - 1]

    def goes(self, plan):
        # The whole plan is looked through first: a missing glass is told ahead of a step that can't be done.
        if any([self.turns_missing_glass(step) for step in plan]):
            return [OUT_OF_BOUNDS]
        above = above_at_the_beginning(self.runs)
        gone_by = 0
        gone_by_behind = []
        for place, step in enumerate(plan):
            above = above_when_turned(self.runs, above, step)
            minutes = minutes_to_wait(above)
            if minutes == 0:
                return [CANNOT_BE_DONE, place]
            above = above_when_waited(above, minutes)
            gone_by = gone_by + minutes
            gone_by_behind.append(gone_by)
        return [gone_by] + gone_by_behind + above

    def tells(self, time):
        if time > LATEST:
            return [OUT_OF_BOUNDS]
        plan = shortest_plan(self.runs, time)
        if plan is None:
            return [CANNOT_BE_DONE]
        return [len(plan)] + plan

    def times(self):
        told = told_times(self.runs, LATEST)
        return [len(told)] + told

    def soonest(self, time):
        if time > LATEST:
            return [OUT_OF_BOUNDS]
        minute = soonest_over(self.runs, time, LATEST)
        if minute is None:
            return [CANNOT_BE_DONE]
        return [minute]

    def turns_missing_glass(self, step):
        return step >> len(self.runs) > 0


def answer(table, call, numbers):
    if call == BEGINS:
        return table.begins()
    if call == GLASS:
        return table.glass(numbers[0])
    if call == GOES:
        return table.goes(numbers)
    if call == TELLS:
        return table.tells(numbers[0])
    if call == TIMES:
        return table.times()
    if call == SOONEST:
        return table.soonest(numbers[0])
    raise UnknownCall(f"call {call} is not known")


def answers(calls):
    table = Table()
    given = []
    place = 0
    while place < len(calls):
        first = place + 2
        behind = first + calls[place + 1]
        told = answer(table, calls[place], calls[first:behind])
        given.append(len(told))
        given.extend(told)
        # Behind a call's numbers stands how many lists it has. No call has any, so that one number is passed over.
        place = behind + 1
    return given
