"""What is there, what is wanted, and each kind's mode."""

HIGHEST_NAME = 31
HIGHEST_KIND = 15
HIGHEST_MODE = 2
LONGEST_ROW = 8
MOST_THINGS = 64
MOST_CAME = 1000000

DONE = 0
NOT_FOUND = -2
WRONG = -22
FULL = -28


class Thing:
    def __init__(self, name, kind, value, uses):
        self.name = name
        self.kind = kind
        self.value = value
        self.uses = list(uses)


class Wish:
    def __init__(self, kind, value, needs):
        self.kind = kind
        self.value = value
        self.needs = list(needs)


# Things stand by their numbers, which keeps them in the order in which they came; wishes stand by their names.
class State:
    def __init__(self):
        self.begin()

    def begin(self):
        self.things = {}
        self.wishes = {}
        self.modes = [0] * (HIGHEST_KIND + 1)
        self.came = 0
        return DONE

    def mode(self, kind, chosen):
        if kind > HIGHEST_KIND or chosen > HIGHEST_MODE:
            return WRONG
        self.modes[kind] = chosen
        return DONE

    def there(self, name, kind, value, uses):
        if is_wrong(name, kind, uses):
            return WRONG
        if any([number not in self.things for number in uses]):
            return NOT_FOUND
        if self.is_full():
            return FULL
        return self.add(Thing(name, kind, value, uses))

    def want(self, name, kind, value, needs):
        if is_wrong(name, kind, needs):
            return WRONG
        if any([need > HIGHEST_NAME for need in needs]):
            return WRONG
        self.wishes[name] = Wish(kind, value, needs)
        return DONE

    def unwant(self, name):
        if name not in self.wishes:
            return NOT_FOUND
        self.wishes.pop(name)
        return DONE

    def look(self, number):
        if number not in self.things:
            return [NOT_FOUND]
        thing = self.things[number]
        return [DONE, thing.name, thing.kind, thing.value] + thing.uses

    def twin(self):
        # A thing is never changed itself, another one comes in its place: so both may hold the same things.
        other = State()
        other.things = dict(self.things)
        other.wishes = dict(self.wishes)
        other.modes = list(self.modes)
        other.came = self.came
        return other

    def is_full(self):
        return len(self.things) >= MOST_THINGS or self.came >= MOST_CAME

    def add(self, thing):
        # Counting all that came, not all that are there, keeps a number from being given again.
        number = self.came
        self.things[number] = thing
        self.came = self.came + 1
        return number


def is_wrong(name, kind, row):
    return name > HIGHEST_NAME or kind > HIGHEST_KIND or is_wrong_row(row)


def is_wrong_row(row):
    return len(row) > LONGEST_ROW or len(set(row)) < len(row)
