"""The first way behind which something holds."""

from talkwatch.choices import EVERY_CHOICE, names_of, with_name
from talkwatch.scenes import Position
from talkwatch.search import ALL_DONE, SECRET_KNOWN, Aim, Reach, Search
from talkwatch.talks import ENDS, SENDS


# In the first way no step could be left out. So where not all is to be done, each part has done nothing or has sent
# something last; but the part that ended wrongly did so last.
def limits_to_try(scene, what):
    if what == ALL_DONE:
        return [scene.sizes()]
    stops = [[0] + stops_behind(events, SENDS) for events in scene.parts]
    if what == SECRET_KNOWN:
        return all_rows(stops)
    rows = []
    for part, events in enumerate(scene.parts):
        rows.extend(all_rows(stops[:part] + [stops_behind(events, ENDS)] + stops[part + 1:]))
    return rows


def stops_behind(events, kind):
    return [place + 1 for place, event in enumerate(events) if event.kind == kind]


# All rows with one number out of each list.
def all_rows(lists):
    rows = [[]]
    for numbers in lists:
        longer = []
        for row in rows:
            longer.extend([row + [number] for number in numbers])
        rows = longer
    return rows


def is_within(limits, most):
    return all([limit <= bound for limit, bound in zip(limits, most)])


# The limits of all ways with the fewest steps.
def least_limits(search):
    scene = search.scene
    reach = Reach(scene, scene.sizes(), EVERY_CHOICE, [], True)
    if search.what == SECRET_KNOWN and reach.choices_for_any(scene.secrets) == 0:
        return []
    most = reach.how_far()
    rows = [row for row in limits_to_try(scene, search.what) if is_within(row, most)]
    found = []
    answers = {}
    for limits in sorted(rows, key=sum):
        if len(found) > 0 and sum(limits) > sum(found[0]):
            return found
        # Parts with the same events may change places, so it needn't be asked again.
        key = tuple(sorted(zip(scene.twins, limits)))
        if key not in answers:
            answers[key] = search.has_way(Aim(limits, None, None), EVERY_CHOICE)
        if answers[key]:
            found.append(limits)
    return found


# Tells the way step by step, each time by the least bytes behind which some of the limits can still be come to.
class Teller:
    def __init__(self, search, rows):
        self.search = search
        self.rows = rows
        self.position = Position(search.scene)
        self.told = []

    def tell(self):
        for turn in range(sum(self.rows[0])):
            part = 0
            while not self.add_step(part):
                part = part + 1
        return self.told

    def add_step(self, part):
        position = self.position
        rows = [row for row in self.rows if row[part] > position.done[part]]
        if len(rows) == 0 or position.choices_to_do(part, position.chosen) == 0:
            return False
        chosen = position.chosen
        names = []
        for leaf in position.coming(part).fresh:
            name = self.least_name(part, rows, chosen, leaf)
            if name is None:
                return False
            names.append(name)
            chosen = with_name(chosen, leaf, name)
        # Where no name is chosen, all that could be come to still can be.
        if len(names) > 0:
            rows = [row for row in rows if self.search.has_way(Aim(row, None, None), chosen)]
        self.rows = rows
        self.told.extend([part, len(names)] + names)
        position.do(part, chosen)
        return True

    def least_name(self, part, rows, chosen, leaf):
        for name in names_of(chosen, leaf):
            tried = with_name(chosen, leaf, name)
            for row in rows:
                if self.search.has_way(Aim(row, self.position, part), tried):
                    return name
        return None


# The bytes of the first way; None if there is no way.
def first_way(scene, what):
    search = Search(scene, what)
    rows = least_limits(search)
    if len(rows) == 0:
        return None
    return Teller(search, rows).tell()
