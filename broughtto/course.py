"""The course from what is there to what is wanted, step by step."""

from broughtto.order import has_all, in_order
from broughtto.state import Thing

MAKE = 1
CHANGE = 2
TAKE_AWAY = 3

AS_IT_IS = 0
GONE_BEFORE = 2


# A thing that is to be made has no number yet; for one that is to be taken away no thing comes.
class Step:
    def __init__(self, what, number, thing):
        self.what = what
        self.number = number
        self.thing = thing


# No step touches a right thing or makes another one right than that of its own name and of those that wait for it.
# So each wanted name is looked at once: it waits until all that it needs have right things, then it has its own,
# or lacks it until a step brings it.
class Course:
    def __init__(self, state):
        self.state = state
        self.rights = {}
        self.lacking = []
        self.waiting = in_order(state.wishes)
        self.settle()

    def settle(self):
        # What waits stands behind all that it needs, so that one walk reaches all that can be settled.
        later = []
        for name in self.waiting:
            if has_all(self.rights, self.state.wishes[name].needs):
                self.settle_name(name)
            else:
                later.append(name)
        self.waiting = later

    def settle_name(self, name):
        number = first_alike(self.state.things, self.wanted_thing(name))
        if number is None:
            self.lacking.append(name)
        else:
            self.rights[name] = number

    def wanted_thing(self, name):
        wish = self.state.wishes[name]
        return Thing(name, wish.kind, wish.value, [self.rights[need] for need in wish.needs])

    def next_step(self):
        """The next step, or None if all is as wanted; it is asked only if there's no refusal."""
        if self.lacking:
            return self.step_towards(self.wanted_thing(min(self.lacking)))
        return self.step_to_clear()

    def step_towards(self, wanted):
        mode = self.state.modes[wanted.kind]
        if mode == AS_IT_IS:
            number = first_of_kind(self.state.things, wanted.name, wanted.kind)
            if number is not None:
                return Step(CHANGE, number, wanted)
        if mode == GONE_BEFORE:
            number = first_above(self.state.things, wanted.name)
            if number is not None:
                return Step(TAKE_AWAY, number, None)
        return Step(MAKE, None, wanted)

    def step_to_clear(self):
        for number in unused(self.state.things):
            if self.rights.get(self.state.things[number].name) != number:
                return Step(TAKE_AWAY, number, None)
        return None

    def has_room_for(self, step):
        return step.what != MAKE or not self.state.is_full()

    def take(self, step):
        if step.what == TAKE_AWAY:
            self.state.things.pop(step.number)
        elif step.what == CHANGE:
            self.state.things[step.number] = step.thing
            self.gain_right(step.thing.name, step.number)
        else:
            self.gain_right(step.thing.name, self.state.add(step.thing))

    def gain_right(self, name, number):
        self.lacking.remove(name)
        self.rights[name] = number
        self.settle()


def first_alike(things, wanted):
    for number, thing in things.items():
        if is_alike(thing, wanted):
            return number
    return None


def is_alike(one, other):
    return (one.name == other.name and one.kind == other.kind
            and one.value == other.value and one.uses == other.uses)


def first_of_kind(things, name, kind):
    for number, thing in things.items():
        if thing.name == name and thing.kind == kind:
            return number
    return None


def unused(things):
    """The numbers of the things that no thing uses, as they came."""
    used = {}
    for thing in things.values():
        for number in thing.uses:
            used[number] = True
    return [number for number in things if number not in used]


def first_above(things, name):
    """The first that no thing uses among the things of this name and all that use them, by however many; or None."""
    seen = {}
    for number in unused(things):
        if leads_to(things, number, name, seen):
            return number
    return None


def leads_to(things, first, name, seen):
    # What was seen from a thing that doesn't lead there doesn't either: so it's left out from then on.
    left = [first]
    while left:
        thing = things[left.pop()]
        if thing.name == name:
            return True
        for number in thing.uses:
            if number not in seen:
                seen[number] = True
                left.append(number)
    return False
