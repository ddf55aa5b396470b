"""How the sand of the glasses goes in one step: what the turning does, the wait, and what is left above."""


def above_at_the_beginning(runs):
    return [0] * len(runs)


def is_turned(step, number):
    return (step >> number) & 1 == 1


def above_when_turned(runs, above, step):
    return [runs[number] - above[number] if is_turned(step, number) else above[number]
            for number in range(len(runs))]


def minutes_to_wait(above):
    # Every wait takes a minute or more, so 0 is free to say that no glass has any sand above.
    return min([sand for sand in above if sand > 0], default=0)


def above_when_waited(above, minutes):
    return [max(sand - minutes, 0) for sand in above]
