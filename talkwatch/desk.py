"""The calls."""

from talkwatch.first import first_way
from talkwatch.refusals import MoreThanMost, NoTalk, NoWay, OutOfBounds, TalkTooLong
from talkwatch.scenes import Scene
from talkwatch.search import ALL_DONE, SECRET_KNOWN
from talkwatch.talks import read_talk
from talkwatch.ways import tell_position, walk

MOST_WAY_BYTES = 144

NONE_THERE = 0
NO_STEPS = -1
OUT_OF_BOUNDS = -2
NO_TALK = -3
MORE_THAN_MOST = -4
NO_WAY = -5


# A talk that is refused is so ahead of all else.
def answer(talk, reply):
    try:
        return reply(read_talk(talk))
    except TalkTooLong:
        return [OUT_OF_BOUNDS]
    except NoTalk:
        return [NO_TALK]
    except OutOfBounds:
        return [OUT_OF_BOUNDS]
    except MoreThanMost:
        return [MORE_THAN_MOST]
    except NoWay:
        return [NO_WAY]


def check(talk):
    return answer(talk, lambda found: [sum([len(events) for events in found.parts])])


def way(what, most, talk):
    return answer(talk, lambda found: tell_way(what, most, found))


def tell_way(what, most, found):
    if what < SECRET_KNOWN or what > ALL_DONE or most < 0:
        raise OutOfBounds()
    told = first_way(Scene(found), what)
    if told is None:
        return [NONE_THERE]
    if len(told) == 0:
        return [NO_STEPS]
    if len(told) > most:
        raise MoreThanMost()
    return [len(told)] + told


def follow(talk, steps):
    return answer(talk, lambda found: [0] + tell_position(walk_within_bounds(found, steps)))


def walk_within_bounds(found, steps):
    if len(steps) > MOST_WAY_BYTES:
        raise OutOfBounds()
    return walk(Scene(found), steps)
