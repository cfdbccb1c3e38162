"""The calls on one driver, read off one list of whole numbers."""

from drivershours.driver import Driver

BEGIN = 1
ADD = 2
DROP = 3
REPORT = 4
NOW = 5
DAYS = 6
WEEK = 7


# How many numbers the call that begins at a place takes up in all.
def length_of_call(calls, at):
    if calls[at] == ADD:
        return 2 + calls[at + 1]
    if calls[at] == DROP or calls[at] == WEEK:
        return 2
    return 1


def answer(driver, call):
    if call[0] == BEGIN:
        return driver.begin()
    if call[0] == ADD:
        return driver.add(call[2:])
    if call[0] == DROP:
        return driver.drop(call[1])
    if call[0] == REPORT:
        return driver.report()
    if call[0] == NOW:
        return driver.now()
    if call[0] == DAYS:
        return driver.days()
    if call[0] == WEEK:
        return driver.week(call[1])
    raise ValueError("no such call")


def answers(calls):
    driver = Driver()
    numbers = []
    at = 0
    while at < len(calls):
        length = length_of_call(calls, at)
        answered = answer(driver, calls[at:at + length])
        numbers.append(len(answered))
        numbers.extend(answered)
        at += length
    return numbers
