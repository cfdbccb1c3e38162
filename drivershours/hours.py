"""The calls on one driver, read off one list of whole numbers."""

from drivershours.driver import Driver

BEGIN = 1
ADD = 2
DROP = 3
REPORT = 4


# How many numbers the call that begins at a place takes up in all.
def length_of_call(calls, at):
    if calls[at] == ADD:
        return 2 + calls[at + 1]
    if calls[at] == DROP:
        return 2
    return 1


def answer(driver, call):
    if call[0] == BEGIN:
        return driver.begin()
    if call[0] == ADD:
        return driver.add(call[2:])
    if call[0] == DROP:
        return driver.drop(call[1])
    if call[0] == REPORT:
        return driver.report()
    raise ValueError("no such call")


def answers(calls):
    driver = Driver()
    numbers = []
    at = 0
    while at < len(calls):
        length = length_of_call(calls, at)
        answered = answer(driver, calls[at:at + length])
        numbers.append(len(answered))
        numbers.extend(answered)
        at += length
    return numbers
