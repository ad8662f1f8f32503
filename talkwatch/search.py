"""Whether there is a way at all, asked without going through the ways one by one.

What parts have done and which names unknowns stand for say all: what the enemy knows and what is marked hang on
nothing else. And what can be done at one time can be done at any later one. So it is asked how far each part goes
(its limit) and which names there must be; an order of the steps is then always found.
"""

from talkwatch.choices import LEAVES, NAMES, in_both, leaves_merged, names_of, where_not_all_equal, with_name
from talkwatch.choices import without_name
from talkwatch.talks import BEGINS, ENDS, GETS, SENDS
from talkwatch.terms import bits_of

SECRET_KNOWN = 0
WRONG_END = 1
ALL_DONE = 2


# By which of the choices offered events can be done, if each part does no more of them than its limit says. Where
# unknowns may stand for several names, more may be answered than can be done; less so if it's close, but that takes
# longer.
class Reach:
    def __init__(self, scene, limits, offered, ruled_out, is_close):
        self.scene = scene
        self.limits = limits
        self.offered = offered
        self.is_close = is_close
        self.knowledge = scene.first_knowledge.copied()
        self.knowledge.ruled_out = ruled_out
        # For each part the choices behind none of its events, behind the first one, and so on.
        self.rows = [[offered] + [0] * limit for limit in limits]
        while any([self.go_on(part) for part in range(len(limits))]):
            self.knowledge.settle(offered)

    # What the enemy hears later may bring more choices for earlier events, so it starts with the first one again.
    # Says whether anything more was heard or got.
    def go_on(self, part):
        grew = False
        row = self.rows[part]
        for place in range(self.limits[part]):
            event = self.scene.parts[part][place]
            choices = row[place]
            if event.kind == GETS:
                choices = self.choices_to_get(event, choices)
            if choices == 0:
                return grew
            if self.is_close and self.note_names(event, row[place], choices):
                grew = True
            row[place + 1] = choices
            if event.kind == SENDS and self.knowledge.hear(event.term, choices):
                grew = True
        return grew

    # What holds a fresh unknown was said by the part itself, and not before it got it.
    def choices_to_get(self, event, offered):
        choices = self.knowledge.choices_for(event.term, offered, bits_of(event.fresh))
        return self.knowledge.as_got(choices, offered, event.older)

    # Says whether there are choices more by which the event's fresh unknowns are got.
    def note_names(self, event, offered, choices):
        grew = False
        for leaf in event.fresh:
            before = self.knowledge.got.get(leaf, [0] * NAMES)
            after = list(before)
            for name in names_of(choices, leaf):
                after[name] = before[name] | self.choices_to_get(event, with_name(offered, leaf, name))
            self.knowledge.got[leaf] = after
            if after != before:
                grew = True
        return grew

    # How many events of each part can be done by some choice.
    def how_far(self):
        return [len([choices for choices in row[1:] if choices > 0]) for row in self.rows]

    def choices_to_end(self):
        choices = self.offered
        for row in self.rows:
            choices = in_both(choices, row[len(row) - 1])
        return choices

    # Pairs of leaves that are equal in all ways that do all events within the limits.
    def sure_pairs(self):
        sure = []
        for part, limit in enumerate(self.limits):
            for place, event in enumerate(self.scene.parts[part][:limit]):
                if event.kind == GETS:
                    offered = self.rows[part][place]
                    sure.extend(self.knowledge.sure_pairs(event.term, offered, bits_of(event.fresh)))
        return sure

    def choices_for_any(self, numbers):
        choices = 0
        for number in numbers:
            choices = choices | self.knowledge.choices_for(number, self.offered)
        return choices


# What is looked for: a way that does just the events within the limits. Where a position is given, the part's coming
# event there is to be the next step.
class Aim:
    def __init__(self, limits, position, part):
        self.limits = limits
        self.position = position
        self.part = part


class Search:
    def __init__(self, scene, what):
        self.scene = scene
        self.what = what
        self.failures = 0
        self.last_failures = [0] * LEAVES
        self.last_found = 0

    # Whether by some of the choices offered there is such a way, and what is asked holds behind it.
    def has_way(self, aim, offered):
        # What was found last often does again.
        guess = self.narrow(aim, in_both(offered, self.last_found))
        if guess > 0 and self.pick(aim.limits, guess) is None:
            return True
        return self.can_settle(aim, self.narrow(aim, offered))

    # It calls itself once for each unknown at most, and there are sixteen.
    def can_settle(self, aim, left):
        while left > 0:
            leaf = self.pick(aim.limits, left)
            if leaf is None:
                self.last_found = left
                return True
            name = names_of(left, leaf)[0]
            tried = self.narrow(aim, with_name(left, leaf, name))
            if tried == 0:
                self.failures = self.failures + 1
                self.last_failures[leaf] = self.failures
            elif self.can_settle(aim, tried):
                return True
            left = self.narrow(aim, without_name(left, leaf, name))
        return False

    # Leaves out choices by which there's surely no such way.
    def narrow(self, aim, offered):
        before = 0
        while offered != before:
            before = offered
            offered = self.choices_left(aim.limits, offered)
            if offered > 0 and aim.position is not None:
                offered = aim.position.choices_to_do(aim.part, offered)
        return offered

    def choices_left(self, limits, offered):
        if offered == 0:
            return 0
        ruled_out = self.pairs_ruled_out(limits)
        left = self.choices_within(Reach(self.scene, limits, offered, ruled_out, False))
        if left > 0 and self.pick(limits, left) is not None:
            left = self.choices_within(Reach(self.scene, limits, left, ruled_out, True))
        return left

    def choices_within(self, reach):
        choices = reach.choices_to_end()
        if self.what == SECRET_KNOWN:
            return in_both(choices, reach.choices_for_any(self.scene.secrets))
        if self.what == WRONG_END and choices > 0:
            merged = leaves_merged(reach.sure_pairs())
            for row in reach.knowledge.ruled_out:
                left = [pair for pair in row if merged[pair[0]] != merged[pair[1]]]
                choices = where_not_all_equal(choices, left)
        return choices

    # What the part that ended last ended with must not be equal to what another began with.
    def pairs_ruled_out(self, limits):
        rows = []
        for part, limit in enumerate(limits):
            if self.what == WRONG_END and limit > 0 and self.scene.parts[part][limit - 1].kind == ENDS:
                ended = self.scene.parts[part][limit - 1].term
                for begun in self.begun_by_others(part, limits):
                    rows.append(self.scene.terms.pairs_to_equal(ended, begun))
        return [row for row in rows if row is not None]

    def begun_by_others(self, part, limits):
        terms = []
        for other, limit in enumerate(limits):
            if other != part:
                events = self.scene.parts[other][:limit]
                terms.extend([event.term for event in events if event.kind == BEGINS])
        return terms

    # An unknown for which a name failed last goes first, so that those that have no bearing on that are left alone.
    def pick(self, limits, choices):
        leaves = [leaf for leaf in self.compared(limits) if len(names_of(choices, leaf)) > 1]
        return min(leaves, key=lambda leaf: (-self.last_failures[leaf], len(names_of(choices, leaf))), default=None)

    # An unknown that stands in one place alone is compared with nothing: if there are names for it, any one does.
    def compared(self, limits):
        times = [0] * LEAVES
        for part, limit in enumerate(limits):
            for event in self.scene.parts[part][:limit]:
                if event.kind == GETS or event.kind == SENDS or self.what == WRONG_END:
                    for leaf in self.scene.terms.leaves[event.term]:
                        times[leaf] = times[leaf] + 1
        return [leaf for leaf in range(NAMES, LEAVES) if times[leaf] > 1]
