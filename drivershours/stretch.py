"""Stretches: what was done, one behind another, from minute 0 on."""

REST = 0
DRIVING = 1
OTHER_WORK = 2


# Alike ones side by side are made one here, so that nothing behind this
# can tell in how many parts a stretch was told.
def stretches_of(told):
    stretches = []
    at = 0
    for kind, minutes in told:
        begun = at
        at += minutes
        if len(stretches) > 0 and stretches[-1][0] == kind:
            begun = stretches.pop()[1]
        stretches.append((kind, begun, at))
    return stretches


def end_of(told):
    return sum([minutes for kind, minutes in told])


# None if there is no work: minute 0 may well be the first one worked.
def first_work(stretches):
    for kind, start, stop in stretches:
        if kind != REST:
            return start
    return None
