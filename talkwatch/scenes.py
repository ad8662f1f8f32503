"""A talk set out for its steps to be done, and where it stands behind some of them."""

from talkwatch.choices import EVERY_CHOICE, leaf_of
from talkwatch.knowledge import Knowledge
from talkwatch.talks import GETS, SENDS, unknowns_of
from talkwatch.terms import Terms


# Fresh are the unknowns that stand for nothing until this event. Which they are doesn't hang on the way, as a part
# does its events in their order.
class Event:
    def __init__(self, kind, term, older, fresh):
        self.kind = kind
        self.term = term
        self.older = older
        self.fresh = fresh


class Scene:
    def __init__(self, talk):
        self.terms = Terms()
        self.first_knowledge = Knowledge(self.terms)
        for term in talk.known:
            self.first_knowledge.hear(self.terms.put(term, 0), EVERY_CHOICE)
        self.first_knowledge.settle(EVERY_CHOICE)
        self.parts = [self.set_part(part, events) for part, events in enumerate(talk.parts)]
        self.secrets = [self.terms.put(term, 0) for term in talk.secrets]
        # For each part the first that has the same events.
        self.twins = [talk.parts.index(events) for events in talk.parts]

    def set_part(self, part, told):
        events = []
        got = {}
        for kind, term in told:
            leaves = [leaf_of(part, unknown) for unknown in unknowns_of(term)]
            older = [leaf for leaf in leaves if leaf in got]
            fresh = [leaf for leaf in leaves if leaf not in got]
            for leaf in fresh:
                got[leaf] = True
            events.append(Event(kind, self.terms.put(term, part), older, fresh))
        return events

    def sizes(self):
        return [len(events) for events in self.parts]


class Position:
    def __init__(self, scene):
        self.scene = scene
        self.done = [0] * len(scene.parts)
        self.chosen = EVERY_CHOICE
        self.knowledge = scene.first_knowledge.copied()

    def is_done(self, part):
        return self.done[part] == len(self.scene.parts[part])

    def coming(self, part):
        return self.scene.parts[part][self.done[part]]

    # By which of the choices offered the part's coming event can be done.
    def choices_to_do(self, part, offered):
        event = self.coming(part)
        if event.kind == GETS:
            return self.knowledge.choices_for(event.term, offered)
        return offered

    def can_know(self, term):
        return self.knowledge.choices_for(self.scene.terms.put(term, 0), self.chosen) > 0

    def do(self, part, chosen):
        event = self.coming(part)
        self.chosen = chosen
        self.done[part] = self.done[part] + 1
        if event.kind == SENDS:
            self.knowledge.hear(event.term, EVERY_CHOICE)
            self.knowledge.settle(chosen)
