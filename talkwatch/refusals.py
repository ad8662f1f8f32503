"""What the calls refuse, each by an error of its own."""


class TalkTooLong(Exception):
    pass


class NoTalk(Exception):
    pass


# What else is handed in is longer, less or more than the call takes.
class OutOfBounds(Exception):
    pass


class MoreThanMost(Exception):
    pass


class NoWay(Exception):
    pass


class NoTerm(Exception):
    pass
