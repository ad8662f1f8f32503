"""The calls."""

from talkwatch.first import first_way
from talkwatch.refusals import MoreThanMost, NoTalk, NoTerm, NoWay, OutOfBounds, TalkTooLong
from talkwatch.scenes import Scene
from talkwatch.search import ALL_DONE, SECRET_KNOWN
from talkwatch.talks import read_talk, read_whole_term
from talkwatch.ways import tell_position, walk

MOST_WAY_BYTES = 144
LEAST_TERM_BYTES = 1
MOST_TERM_BYTES = 64

NONE_THERE = 0
NO_STEPS = -1
OUT_OF_BOUNDS = -2
NO_TALK = -3
MORE_THAN_MOST = -4
NO_WAY = -5
NO_TERM = -6


# A talk that is refused is so ahead of all else.
def answer(talk, reply):
    try:
        return reply(read_talk(talk))
    except TalkTooLong:
        return [OUT_OF_BOUNDS]
    except NoTalk:
        return [NO_TALK]
    except OutOfBounds:
        return [OUT_OF_BOUNDS]
    except MoreThanMost:
        return [MORE_THAN_MOST]
    except NoWay:
        return [NO_WAY]
    except NoTerm:
        return [NO_TERM]


def check(talk):
    return answer(talk, lambda found: [sum([len(events) for events in found.parts])])


def way(what, most, talk):
    return answer(talk, lambda found: tell_way(what, most, found))


def tell_way(what, most, found):
    if what < SECRET_KNOWN or what > ALL_DONE or most < 0:
        raise OutOfBounds()
    told = first_way(Scene(found), what)
    if told is None:
        return [NONE_THERE]
    if len(told) == 0:
        return [NO_STEPS]
    if len(told) > most:
        raise MoreThanMost()
    return [len(told)] + told


def follow(talk, steps):
    return answer(talk, lambda found: tell_where(found, steps))


def tell_where(found, steps):
    if len(steps) > MOST_WAY_BYTES:
        raise OutOfBounds()
    return [0] + tell_position(walk(Scene(found), steps))


def knows(talk, steps, term):
    return answer(talk, lambda found: tell_whether(found, steps, term))


# Both lengths go ahead of the way, and the way goes ahead of the term's bytes.
def tell_whether(found, steps, term):
    if len(steps) > MOST_WAY_BYTES or len(term) < LEAST_TERM_BYTES or len(term) > MOST_TERM_BYTES:
        raise OutOfBounds()
    position = walk(Scene(found), steps)
    return [1 if position.can_know(read_whole_term(term)) else 0]
