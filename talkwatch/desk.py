"""The calls."""

from talkwatch.talks import NoTalk, TalkTooLong, read_talk

TALK_TOO_LONG = -2
NO_TALK = -3


def check(talk):
    try:
        found = read_talk(talk)
    except TalkTooLong:
        return [TALK_TOO_LONG]
    except NoTalk:
        return [NO_TALK]
    return [sum([len(events) for events in found.parts])]
