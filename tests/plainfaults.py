"""A search through all courses of a load at once, with however many losses, which tests of Part 4 share."""

from itertools import product

from tests.plainturns import plain_borders


def comings(things, least, most):
    """All choices of which things come now, each a pair of lists (those that come, those that do not)."""
    kinds = [(False,) if age < least else (True,) if age == most else (True, False) for _, age in things]
    for chosen in product(*kinds):
        yield ([thing for thing, comes in zip(things, chosen) if comes],
               [thing for thing, comes in zip(things, chosen) if not comes])


class FaultSearch:
    """A state is (parcel, is open, moments until it is sent, taken, things to the reader, answers)."""

    def __init__(self, turn, load):
        self.turn, self.load = turn, load
        self.many = sum(load.rows)
        self.borders = plain_borders(load)

    def has_fault(self):
        start = (0, False, 0, 0, (), ())
        seen, waiting = {start}, [start]
        while waiting:
            for state in self.followers(waiting.pop()):
                if state is None:
                    return True
                if state not in seen:
                    seen.add(state)
                    waiting.append(state)
        return False

    def followers(self, state):
        """The states one moment later, None for a fault."""
        parcel, is_open, rest, taken, things, answers = state
        least, most, numbers = self.turn.least, self.turn.most, self.turn.numbers
        for (read, left), (heard, unheard) in product(comings(things, least, most), comings(answers, least, most)):
            now, sent = taken, list(unheard)
            for sending, _ in read:
                if sending % numbers == now % numbers:
                    if sending != now:
                        yield None
                    now += 1
                # Its answer may be lost; that there are as few as two kinds keeps the search small.
            for lots in product((True, False), repeat=len(read)):
                replies = [(sending, 0) for (sending, _), answered in zip(read, lots) if answered]
                yield from self.closed(parcel, is_open, rest, now, left, heard, sent + replies)

    def closed(self, parcel, is_open, rest, taken, things, heard, answers):
        for number, _ in heard:
            if is_open and number % self.turn.numbers == parcel % self.turn.numbers:
                rest = self.load.quiet if parcel in self.borders else 0
                is_open = False
                parcel += 1
        if parcel == self.many:
            if taken + len(things) < self.many or (not things and not answers and taken != self.many):
                yield None
            if not things:
                return
            yield (parcel, False, 0, taken, older(things), older(answers))
        elif rest > 0:
            yield (parcel, is_open, rest - 1, taken, older(things), older(answers))
        else:
            for more in ([], [(parcel, 0)]):
                yield (parcel, True, self.turn.turn - 1, taken, older(list(things) + more), older(answers))


def older(things):
    return tuple((sending, age + 1) for sending, age in things)
