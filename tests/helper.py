"""What the tests share: how to tell terms, talks and ways, and a slow and plain reading of what is promised."""

import inspect
import itertools
import sys

NAMES = range(16)

GETS, SENDS, BEGINS, ENDS = 0, 1, 2, 3
MARKING_KINDS = (SENDS, BEGINS, ENDS)

NAME, PAIR, LOCKED, LOCKED_FOR, PRINT, OWN_KEY, SEALED, UNKNOWN = range(8)
SORTS_OF_ONE = (PRINT, OWN_KEY)
SORTS_OF_TWO = (PAIR, LOCKED, LOCKED_FOR, SEALED)


# Terms, talks and ways, told by bytes.


def name(number):
    return [NAME, number]


def unknown(number):
    return [UNKNOWN, number]


def together(first, *others):
    return [PAIR] + first + together(*others) if others else first


def locked(inner, key):
    return [LOCKED] + inner + key


def locked_for(inner, whom):
    return [LOCKED_FOR] + inner + whom


def print_of(inner):
    return [PRINT] + inner


def own_key(inner):
    return [OWN_KEY] + inner


def sealed(inner, by):
    return [SEALED] + inner + by


def around(inner, beside=(NAME, 0)):
    """Terms that hold the term `inner`, one for each place it can have in another."""
    beside = list(beside)
    terms = [[sort] + inner for sort in SORTS_OF_ONE]
    terms += [[sort] + inner + beside for sort in SORTS_OF_TWO]
    terms += [[sort] + beside + inner for sort in SORTS_OF_TWO]
    return terms


def counted(rows):
    told = [len(rows)]
    for row in rows:
        told.extend(row)
    return told


def part(*events):
    return counted([[kind] + term for kind, term in events])


def talk(known=(), parts=(part(),), secrets=()):
    return counted(known) + counted(parts) + counted(secrets)


def steps(*rows):
    """Each row: the part, then the names that are chosen."""
    told = []
    for row in rows:
        told.extend([row[0], len(row) - 1] + list(row[1:]))
    return told


# What is handed in, and how.


class FixedList(list):
    """A list that can't be changed, not for a while either."""

    def refuse(self, *args, **kwargs):
        raise AssertionError("the list handed in was changed")

    __setitem__ = __delitem__ = __iadd__ = __imul__ = refuse
    append = extend = insert = pop = remove = clear = sort = reverse = refuse


def with_few_calls(call, *given):
    """What the call answers where only few calls fit within one another."""
    limit = sys.getrecursionlimit()
    sys.setrecursionlimit(len(inspect.stack()) + 100)
    try:
        return call(*given)
    finally:
        sys.setrecursionlimit(limit)


# The slow and plain reading. A term is a tuple: its sort, and a number or the terms within it.


def read_term(told, place):
    sort = told[place]
    if sort in (NAME, UNKNOWN):
        return (sort, told[place + 1]), place + 2
    first, place = read_term(told, place + 1)
    if sort in SORTS_OF_ONE:
        return (sort, first), place
    second, place = read_term(told, place)
    return (sort, first, second), place


def tell_term(term):
    if term[0] in (NAME, UNKNOWN):
        return list(term)
    return [term[0]] + [number for inner in term[1:] for number in tell_term(inner)]


def read_rows(told, place, read):
    rows = []
    how_many, place = told[place], place + 1
    for row in range(how_many):
        found, place = read(told, place)
        rows.append(found)
    return rows, place


def read_event(told, place):
    term, end = read_term(told, place + 1)
    return (told[place], term), end


def read_talk(told):
    known, place = read_rows(told, 0, read_term)
    parts, place = read_rows(told, place, lambda all_told, start: read_rows(all_told, start, read_event))
    secrets, place = read_rows(told, place, read_term)
    assert place == len(told)
    return known, parts, secrets


def inner_terms(term):
    found = {term}
    if term[0] not in (NAME, UNKNOWN):
        for inner in term[1:]:
            found |= inner_terms(inner)
    return found


def unknowns_in(term):
    return sorted(inner[1] for inner in inner_terms(term) if inner[0] == UNKNOWN)


def replaced(term, names):
    if term[0] == UNKNOWN:
        return (NAME, names[term[1]])
    if term[0] == NAME:
        return term
    return (term[0],) + tuple(replaced(inner, names) for inner in term[1:])


def can_be_put_together(term, known):
    sort = term[0]
    if sort in (PAIR, LOCKED, LOCKED_FOR):
        return term[1] in known and term[2] in known
    if sort == SEALED:
        return term[1] in known and term[2] in known and (OWN_KEY, term[2]) in known
    return sort == PRINT and term[1] in known


def taken_apart(term, known):
    sort = term[0]
    if sort == PAIR:
        return [term[1], term[2]]
    if sort == SEALED or sort == LOCKED and term[2] in known:
        return [term[1]]
    if sort == LOCKED_FOR and (OWN_KEY, term[2]) in known:
        return [term[1]]
    return []


def all_known(known, wanted):
    """What is known of the terms that stand within those known and those wanted."""
    candidates = set()
    for term in itertools.chain(known, wanted):
        candidates |= inner_terms(term)
    found = set(known)
    before = 0
    while before < len(found):
        before = len(found)
        found |= {term for term in candidates if can_be_put_together(term, found)}
        for term in list(found):
            found.update(taken_apart(term, found))
    return found


class TooMany(Exception):
    pass


class SlowTalk:
    """Goes through all there is, way by way; a state is how far each part is, and its unknowns' names."""

    def __init__(self, told):
        self.known, self.parts, self.secrets = read_talk(told)
        self.start = (tuple(0 for row in self.parts), tuple((None,) * 4 for row in self.parts))
        self.answers = {}

    def heard(self, state):
        heard = set(self.known)
        for number, kind, term in self.done_events(state):
            if kind == SENDS:
                heard.add(term)
        return frozenset(heard)

    def done_events(self, state):
        done, names = state
        for number, events in enumerate(self.parts):
            for kind, term in events[:done[number]]:
                yield number, kind, replaced(term, names[number])

    def can_know(self, heard, term):
        if (heard, term) not in self.answers:
            self.answers[heard, term] = term in all_known(heard, [term])
        return self.answers[heard, term]

    def after(self, state, number):
        """The states behind each step that the part can do, with the names that are chosen, rising."""
        done, names = state
        if done[number] == len(self.parts[number]):
            return []
        kind, term = self.parts[number][done[number]]
        fresh = [v for v in unknowns_in(term) if names[number][v] is None] if kind == GETS else []
        heard = self.heard(state)
        found = []
        for chosen in itertools.product(self.names_to_try(), repeat=len(fresh)):
            own = list(names[number])
            for v, a in zip(fresh, chosen):
                own[v] = a
            if kind != GETS or self.can_know(heard, replaced(term, own)):
                behind = (done[:number] + (done[number] + 1,) + done[number + 1:],
                          names[:number] + (tuple(own),) + names[number + 1:])
                found.append((chosen, behind))
        return found

    def names_to_try(self):
        """A name that stands nowhere in the talk can't be known, nor can a term that holds it."""
        terms = self.known + [term for events in self.parts for kind, term in events]
        return sorted({inner[1] for term in terms for inner in inner_terms(term) if inner[0] == NAME})

    def holds(self, what, state):
        if what == 0:
            heard = self.heard(state)
            return any(self.can_know(heard, secret) for secret in self.secrets)
        if what == 1:
            events = list(self.done_events(state))
            begun = [(number, term) for number, kind, term in events if kind == BEGINS]
            ended = [(number, term) for number, kind, term in events if kind == ENDS]
            return any(all(other == number or begin != term for other, begin in begun) for number, term in ended)
        return all(count == len(events) for count, events in zip(state[0], self.parts))

    def way(self, what, most_states=2000):
        """As way is to answer, if most is great enough."""
        layer = {self.start: ()}
        seen = 0
        while layer:
            good = sorted(told for state, told in layer.items() if self.holds(what, state))
            if good:
                return [len(good[0])] + list(good[0]) if good[0] else [-1]
            behind = {}
            for state, told in layer.items():
                for number in range(len(self.parts)):
                    for chosen, next_state in self.after(state, number):
                        longer = told + (number, len(chosen)) + chosen
                        behind[next_state] = min(longer, behind.get(next_state, longer))
            seen += len(behind)
            if seen > most_states:
                raise TooMany()
            layer = behind
        return [0]

    def follow(self, told):
        """The state behind the way; None if the bytes don't tell one."""
        state = self.start
        place = 0
        while place < len(told):
            number = told[place]
            if number >= len(self.parts) or place + 1 == len(told):
                return None
            end = place + 2 + told[place + 1]
            chosen = tuple(told[place + 2:end])
            behind = [found for names, found in self.after(state, number) if names == chosen]
            if end > len(told) or not behind:
                return None
            state = behind[0]
            place = end
        return state

    def some_way(self, chance):
        state, told = self.start, []
        for turn in range(chance.randrange(12)):
            found = [(number, step) for number in range(len(self.parts)) for step in self.after(state, number)]
            if found:
                number, (chosen, state) = chance.choice(found)
                told.extend([number, len(chosen)] + list(chosen))
        return told

    def numbers(self, state):
        told = [0]
        for number in range(4):
            if number < len(self.parts):
                told.append(state[0][number])
                told.extend(255 if a is None else a for a in state[1][number])
            else:
                told.extend([0, 255, 255, 255, 255])
        return told

    def knows(self, state, told):
        return int(self.can_know(self.heard(state), read_term(told, 0)[0]))


# Talks by chance.


class Chance:
    """Talks whose events look like one another, so that much can be got and unlocked."""

    def __init__(self, random):
        self.random = random
        self.names = random.choice((2, 3, 4, 6))
        self.depth = random.choice((1, 1, 2))

    def term(self, depth, unknowns=()):
        if depth == 0 or self.random.random() < 0.3:
            if unknowns and self.random.random() < 0.5:
                return (UNKNOWN, self.random.choice(unknowns))
            return (NAME, self.random.randrange(self.names))
        sort = self.random.choice((PAIR, LOCKED, LOCKED, LOCKED_FOR, LOCKED_FOR, PRINT, OWN_KEY, SEALED))
        if sort in SORTS_OF_ONE:
            return (sort, self.term(depth - 1, unknowns))
        return (sort, self.term(depth - 1, unknowns), self.term(self.random.choice((0, 0, 1)), unknowns))

    def blurred(self, term, unknowns, share):
        """The term with some of its names replaced by unknowns."""
        if term[0] == NAME:
            return (UNKNOWN, self.random.choice(unknowns)) if unknowns and self.random.random() < share else term
        return (term[0],) + tuple(self.blurred(inner, unknowns, share) for inner in term[1:])

    def part(self, pool):
        wanted = list(range(self.random.choice((1, 2, 3, 4))))
        got = []
        events = []
        for place in range(self.random.randrange(7)):
            kind = self.random.choice((GETS, GETS, GETS, SENDS, SENDS, SENDS, BEGINS, ENDS))
            source = self.random.choice(pool) if self.random.random() < 0.7 else self.term(1)
            if kind in (BEGINS, ENDS):
                source = self.term(self.random.choice((0, 0, 1)))
            if kind == GETS:
                term = self.blurred(source, wanted, self.random.choice((0.3, 0.6, 0.9)))
                got = sorted(set(got) | set(unknowns_in(term)))
            else:
                term = self.blurred(source, got, self.random.choice((0.3, 0.7)))
            events.append([kind] + tell_term(term))
        return counted(events)

    def talk(self):
        pool = [self.term(self.depth + 1) for number in range(self.random.randrange(2, 6))]
        known = [name(number) for number in range(self.names) if self.random.random() < 0.3]
        known += [tell_term(term) for term in self.random.sample(pool, self.random.randrange(3))]
        known += [own_key(name(self.random.randrange(self.names)))] * self.random.randrange(2)
        parts = [self.part(pool) for number in range(self.random.choice((1, 2, 2, 3, 4)))]
        secrets = [tell_term(self.secret(pool)) for number in range(self.random.randrange(3))]
        return talk(known[:8], parts, secrets)

    def secret(self, pool):
        if self.random.random() < 0.5:
            return self.term(self.random.choice((0, 0, 1)))
        return self.random.choice(sorted(inner_terms(self.random.choice(pool))))

    # Talks in which parts pass names on to one another, and begin and end with them.

    def row(self, make):
        terms = [make() for number in range(self.random.choice((1, 1, 2)))]
        return together(*[tell_term(term) for term in terms])

    def passing_part(self, unknowns, keys):
        events = []
        got = []
        for place in range(self.random.randrange(2, 6)):
            kind = self.random.choice((GETS, GETS, GETS, SENDS, SENDS, BEGINS, ENDS))
            wanted = unknowns if kind == GETS else got
            told = self.row(lambda: self.blurred((NAME, self.random.randrange(2)), wanted, 0.9))
            if kind == SENDS or kind == GETS and self.random.random() < 0.6:
                told = locked(told, self.random.choice(keys))
            if kind == GETS:
                got = sorted(set(got) | set(unknowns_in(read_term(told, 0)[0])))
            events.append([kind] + told)
        return counted(events)

    def passing_talk(self):
        keys = [own_key(name(8)), own_key(name(9)), name(10)]
        unknowns = list(range(self.random.choice((1, 2, 3))))
        parts = [self.passing_part(unknowns, keys) for number in range(self.random.choice((2, 3, 3)))]
        if self.random.random() < 0.4:
            parts.append(parts[0])
        return talk([name(number) for number in (0, 1) if self.random.random() < 0.8], parts)
