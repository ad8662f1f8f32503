"""Bytes read as a way, and followed."""

from talkwatch.choices import UNKNOWNS_OF_A_PART, leaf_of, names_of, with_name
from talkwatch.refusals import NoWay
from talkwatch.scenes import Position
from talkwatch.talks import LAST_NAME, MOST_PARTS

# Stands for the name of an unknown that has none.
NO_NAME = 255


# Where the talk stands behind the way that the bytes tell.
def walk(scene, steps):
    position = Position(scene)
    place = 0
    while place < len(steps):
        place = take_step(position, steps, place)
    return position


# Gives back the place behind the step.
def take_step(position, steps, place):
    part = steps[place]
    if part >= len(position.done) or position.is_done(part):
        raise NoWay()
    fresh = position.coming(part).fresh
    end = place + 2 + len(fresh)
    if end > len(steps) or steps[place + 1] != len(fresh):
        raise NoWay()
    chosen = position.chosen
    for leaf, name in zip(fresh, steps[place + 2:end]):
        if name > LAST_NAME:
            raise NoWay()
        chosen = with_name(chosen, leaf, name)
    if position.choices_to_do(part, chosen) == 0:
        raise NoWay()
    position.do(part, chosen)
    return end


# For each of four parts how many events it has done, then its unknowns' names.
def tell_position(position):
    told = []
    for part in range(MOST_PARTS):
        told.append(position.done[part] if part < len(position.done) else 0)
        for unknown in range(UNKNOWNS_OF_A_PART):
            names = names_of(position.chosen, leaf_of(part, unknown))
            # Until a name is chosen for it, an unknown may stand for any.
            told.append(names[0] if len(names) == 1 else NO_NAME)
    return told
