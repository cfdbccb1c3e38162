"""Breaks: rule 1."""

from drivershours.stretch import DRIVING, REST

WHOLE_BREAK = 45
FIRST_PART = 15
SECOND_PART = 30
MOST_DRIVING = 270


# What lies between two whole breaks, ahead of the first or behind the last.
class Spell:
    def __init__(self):
        self.driving = 0
        self.over_at = None
        self.had_first_part = False

    # Driving that ends with the last minute allowed breaks nothing yet: it is
    # the next minute driven that does, be it much later.
    def drive(self, start, stop):
        allowed = MOST_DRIVING - self.driving
        self.driving += stop - start
        if self.over_at is None and self.driving > MOST_DRIVING:
            self.over_at = start + allowed

    def is_ended_by(self, minutes):
        if self.had_first_part and minutes >= SECOND_PART:
            return True
        return minutes >= WHOLE_BREAK


# The last one is the one that still goes on.
def spells_of(stretches):
    spell = Spell()
    spells = [spell]
    for kind, start, stop in stretches:
        if kind == DRIVING:
            spell.drive(start, stop)
        elif kind == REST and spell.is_ended_by(stop - start):
            spell = Spell()
            spells.append(spell)
        elif kind == REST and stop - start >= FIRST_PART:
            spell.had_first_part = True
    return spells


# The driving, and whether a first part was had.
def since_whole_break(stretches):
    spell = spells_of(stretches)[-1]
    return [spell.driving, 1 if spell.had_first_part else 0]


def missed_breaks(stretches):
    broken = []
    for spell in spells_of(stretches):
        if spell.driving > MOST_DRIVING:
            broken.append((spell.over_at, 1, spell.driving - MOST_DRIVING))
    return broken
