"""Goes through all plans of some glasses, up to so many minutes.

Plans that have come to the same sand above in as many minutes go on alike, so they are gone on with as one.
"""

from sandglasses.sand import above_at_the_beginning, above_when_turned, above_when_waited, minutes_to_wait


def ways_on(runs, above):
    """The steps that can be done, the lowest first: each with its minutes and with what is above behind it."""
    ways = []
    for step in range(1 << len(runs)):
        turned = above_when_turned(runs, above, step)
        minutes = minutes_to_wait(turned)
        if minutes > 0:
            ways.append((step, minutes, tuple(above_when_waited(turned, minutes))))
    return ways


def one_step_longer(runs, rows, latest, seen):
    # Rows stand from the earliest plan on, and ways from the lowest step on: so the first that comes to a place comes
    # there by the earliest plan, and the longer rows stand from the earliest plan on too.
    longer = []
    for gone_by, above, plan in rows:
        for step, minutes, behind in ways_on(runs, above):
            place = (gone_by + minutes, behind)
            if gone_by + minutes <= latest and place not in seen:
                seen[place] = True
                longer.append((gone_by + minutes, behind, plan + [step]))
    return longer


def shortest_plan(runs, time):
    """The plan that tells the time with the fewest steps, of several the earliest; None if no plan tells it."""
    seen = {}
    rows = [(0, tuple(above_at_the_beginning(runs)), [])]
    # Every step takes a minute or more, so no row is left when the time is past.
    while len(rows) > 0:
        for gone_by, above, plan in rows:
            if gone_by == time:
                return plan
        rows = one_step_longer(runs, rows, time, seen)
    return None


def go_on(runs, reached, minute):
    for above in list(reached[minute]):
        stops = reached[minute][above]
        for step, minutes, behind in ways_on(runs, above):
            later = minute + minutes
            if later < len(reached):
                reached[later][behind] = reached[later].get(behind, 0) | stops | (1 << later)


def stops_by_minute(runs, latest):
    """For each minute up to the latest a number, 0 if no plan tells that minute.

    Else its bit i says whether a plan that tells it is at the beginning or behind a step at minute i.
    """
    reached = [{} for minute in range(latest + 1)]
    reached[0][tuple(above_at_the_beginning(runs))] = 1
    found = []
    # A step leads only to later minutes, so all that comes to a minute is there when it's its turn.
    for minute in range(latest + 1):
        go_on(runs, reached, minute)
        stops = 0
        for above in reached[minute]:
            stops = stops | reached[minute][above]
        found.append(stops)
    return found


def told_times(runs, latest):
    """The times up to the latest that plans tell, the least first."""
    return [minute for minute, stops in enumerate(stops_by_minute(runs, latest)) if stops > 0]


def soonest_over(runs, time, latest):
    """The first minute at which so many can be over; None if there's none up to the latest."""
    for minute, stops in enumerate(stops_by_minute(runs, latest)):
        if minute >= time and (stops >> (minute - time)) & 1 == 1:
            return minute
    return None
