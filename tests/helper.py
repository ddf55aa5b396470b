"""Writes calls in the form they are handed in, and takes what is given back apart again, call by call."""

from sandglasses.table import answers

LARGEST = 4294967295

BEGINS = [0, 0, 0]
TIMES = [4, 0, 0]


def glass(minutes):
    return [1, 1, minutes, 0]


def goes(*plan):
    return [2, len(plan)] + list(plan) + [0]


def tells(time):
    return [3, 1, time, 0]


def soonest(time):
    return [5, 1, time, 0]


def glasses(*runs):
    return [glass(minutes) for minutes in runs]


def line(calls):
    return [number for call in calls for number in call]


def taken_apart(given):
    found = []
    place = 0
    while place < len(given):
        behind = place + 1 + given[place]
        if behind > len(given):
            raise AssertionError(f"an answer ends too early: {given}")
        found.append(given[place + 1:behind])
        place = behind
    return found


def asked(*calls):
    """The answers to these calls, a list for each."""
    found = taken_apart(answers(line(calls)))
    if len(found) != len(calls):
        raise AssertionError(f"{len(calls)} calls, {len(found)} answers")
    return found


def on(runs, call):
    """What this call answers on a table of these glasses."""
    return asked(*glasses(*runs), call)[-1]


def plan_on(runs, *plan):
    return on(runs, goes(*plan))
