"""Choices among things, and the things that are ready."""

from clockwright.errors import Misused


class Choices:
    """A list of integers that decide, from the front, what is chosen."""

    def __init__(self, numbers):
        self.used = 0
        self._numbers = list(numbers)

    def choose(self, many):
        """Return the index that is chosen among so many things."""
        if self.used == len(self._numbers):
            return 0
        number = self._numbers[self.used]
        self.used += 1
        return number % many


class Ready:
    """The numbers of the things that are ready, without duplicates."""

    def __init__(self, things):
        # always in ascending order
        self._things = sorted(set(things))

    def __len__(self):
        return len(self._things)

    def _place(self, thing):
        """Return where the thing stands, or where it would stand."""
        low, high = 0, len(self._things)
        while low < high:
            middle = (low + high) // 2
            if self._things[middle] < thing:
                low = middle + 1
            else:
                high = middle
        return low

    def add(self, thing):
        """Make a thing ready, if it is not."""
        place = self._place(thing)
        if self._things[place:place + 1] != [thing]:
            self._things.insert(place, thing)

    def take(self, choices):
        """Choose one of the ready things, remove it, and return its number."""
        if not self._things:
            raise Misused("ready")
        return self._things.pop(choices.choose(len(self._things)))

    def waiting(self):
        """Return the ready things in ascending order."""
        return list(self._things)


def order(many, choices):
    """Return the numbers below many in the order in which they are taken one by one."""
    ready = Ready(list(range(many)))
    taken = []
    while len(ready) > 0:
        taken.append(ready.take(choices))
    return taken
