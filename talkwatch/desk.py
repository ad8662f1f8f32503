"""The calls."""

from talkwatch.first import first_way
from talkwatch.refusals import MoreThanMost, NoTalk, OutOfBounds, TalkTooLong
from talkwatch.scenes import Scene
from talkwatch.search import ALL_DONE, SECRET_KNOWN
from talkwatch.talks import read_talk

NO_WAY_AT_ALL = 0
NO_STEPS = -1
OUT_OF_BOUNDS = -2
NO_TALK = -3
MORE_THAN_MOST = -4


# A talk that is refused is so ahead of all else.
def answer(talk, reply):
    try:
        return reply(read_talk(talk))
    except TalkTooLong:
        return [OUT_OF_BOUNDS]
    except NoTalk:
        return [NO_TALK]
    except OutOfBounds:
        return [OUT_OF_BOUNDS]
    except MoreThanMost:
        return [MORE_THAN_MOST]


def check(talk):
    return answer(talk, lambda found: [sum([len(events) for events in found.parts])])


def way(what, most, talk):
    return answer(talk, lambda found: tell_way(what, most, found))


def tell_way(what, most, found):
    if what < SECRET_KNOWN or what > ALL_DONE or most < 0:
        raise OutOfBounds()
    told = first_way(Scene(found), what)
    if told is None:
        return [NO_WAY_AT_ALL]
    if len(told) == 0:
        return [NO_STEPS]
    if len(told) > most:
        raise MoreThanMost()
    return [len(told)] + told
