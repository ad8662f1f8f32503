"""Bytes read as terms and talks."""

from talkwatch.refusals import NoTalk, NoTerm, TalkTooLong

# The bytes that terms begin with.
NAME = 0
TOGETHER = 1
LOCKED = 2
LOCKED_FOR = 3
OWN_KEY = 5
SEALED = 6
UNKNOWN = 7
# How many terms stand within a term, by the byte it begins with.
INNER_TERMS = (0, 2, 2, 2, 1, 1, 2, 0)

GETS = 0
SENDS = 1
BEGINS = 2
ENDS = 3

LAST_NAME = 15
LAST_UNKNOWN = 3
# Stands where there is no number.
NOTHING = -1

MOST_BYTES = 512
MOST_KNOWN = 8
MOST_PARTS = 4
MOST_EVENTS = 6
MOST_SECRETS = 4


# Terms are kept as the bytes that tell them: no term begins another, so equal bytes are equal terms.
# Of an event its kind and its term are kept, as a tuple.
class Talk:
    def __init__(self, known, parts, secrets):
        self.known = known
        self.parts = parts
        self.secrets = secrets


class Reader:
    def __init__(self, numbers):
        self.numbers = numbers
        self.place = 0

    def at_end(self):
        return self.place == len(self.numbers)

    def take(self, most):
        if self.at_end() or self.numbers[self.place] > most:
            raise NoTalk()
        self.place = self.place + 1
        return self.numbers[self.place - 1]

    # Terms still due are counted in a loop, as a term may nest as deep as it is long.
    def take_term(self):
        start = self.place
        due = 1
        while due > 0:
            first = self.take(UNKNOWN)
            if first == NAME:
                self.take(LAST_NAME)
            elif first == UNKNOWN:
                self.take(LAST_UNKNOWN)
            due = due - 1 + INNER_TERMS[first]
        return tuple(self.numbers[start:self.place])


# The bytes that a term and those within it begin with, in order, each with the number behind it.
# A name's number may look like the beginning of an unknown, so names are stepped over whole.
def heads_of(term):
    heads = []
    place = 0
    while place < len(term):
        if INNER_TERMS[term[place]] == 0:
            heads.append((term[place], term[place + 1]))
            place = place + 2
        else:
            heads.append((term[place], NOTHING))
            place = place + 1
    return heads


def unknowns_of(term):
    return sorted(set([number for head, number in heads_of(term) if head == UNKNOWN]))


def take_whole_terms(reader, most):
    terms = []
    how_many = reader.take(most)
    for number in range(how_many):
        term = reader.take_term()
        if len(unknowns_of(term)) > 0:
            raise NoTalk()
        terms.append(term)
    return terms


def take_part(reader):
    events = []
    got = {}
    how_many = reader.take(MOST_EVENTS)
    for number in range(how_many):
        kind = reader.take(ENDS)
        term = reader.take_term()
        for unknown in unknowns_of(term):
            if kind == GETS:
                got[unknown] = True
            elif unknown not in got:
                raise NoTalk()
        events.append((kind, term))
    return events


def take_parts(reader):
    how_many = reader.take(MOST_PARTS)
    if how_many == 0:
        raise NoTalk()
    return [take_part(reader) for number in range(how_many)]


def read_talk(talk):
    if len(talk) > MOST_BYTES:
        raise TalkTooLong()
    reader = Reader(talk)
    known = take_whole_terms(reader, MOST_KNOWN)
    parts = take_parts(reader)
    secrets = take_whole_terms(reader, MOST_SECRETS)
    if not reader.at_end():
        raise NoTalk()
    return Talk(known, parts, secrets)


# A term that is handed in by itself is refused by itself.
def read_whole_term(numbers):
    reader = Reader(numbers)
    try:
        term = reader.take_term()
    except NoTalk:
        raise NoTerm() from None
    if not reader.at_end() or len(unknowns_of(term)) > 0:
        raise NoTerm()
    return term
