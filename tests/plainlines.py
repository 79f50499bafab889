"""Lines that the tests of Parts 7 to 9 share, and what is told of them by the words of [37] to [41]."""

from tests.plainraces import plain_outcome, plain_runs
from tests.rooms import plain_cuts
from wholeline.letters import Mail
from wholeline.lines import Line
from wholeline.steps import Room, Steps
from wholeline.ways import Way

# Two ways, two rows, no bar; the first way has a box.
SETTINGS = {
    "mail": Mail([[(("ann", "bob"), 3), ((), 5)], [(("ann",), 1)]]),
    "ways": (Way(0, 1, 2, [(0, 1, 40, 60)]), Way(1, 1, 3)), "widths": (5, 8), "turn": 12, "numbers": 2,
    "room": Room(10, Steps([4, 8])), "head": 2, "places": 1, "cost": 3, "period": 5, "quiet": 20, "silent": 1, "losses": 1,
}


def line_with(**settings):
    """The line of SETTINGS with other settings."""
    return Line(**{**SETTINGS, **settings})


LINE = line_with()


def plain_lengths(line):
    """The lengths of all letters, by the words of [9]."""
    places, used, lengths = [None] * line.places, [], []
    for row in line.mail.rows_told():
        for heads, body in row:
            length = body
            for head in heads:
                length += 1 if head in places else line.cost
                if line.places:
                    if head not in places:
                        at = places.index(None) if None in places else places.index(used[0])
                        used = [old for old in used if old != places[at]]
                        places[at] = head
                    used = [old for old in used if old != head] + [head]
            lengths.append(length)
    return lengths


def plain_pieces(line, width):
    """The fewest pieces of each letter, None for a stuck one; by all cuts, so for small letters only."""
    told = []
    for length in plain_lengths(line):
        cuts = plain_cuts(line.room.size, line.room.steps.bounds, max(0, width - line.head), length)
        told.append(min([len(cut) for cut in cuts], default=None))
    return told


def plain_wins(line):
    """The moments at which each way wins, by all runs of the race."""
    wins = {}
    for run in plain_runs(RaceOf(line)):
        winner, moment, _ = plain_outcome(RaceOf(line), run)
        if winner is not None:
            wins.setdefault(winner, set()).add(moment)
    return wins


class RaceOf:
    """The ways and the silent ways of a line, as the searches over races read them."""

    def __init__(self, line):
        self.ways, self.silent = line.ways, line.silent


NAMES = ["a", "bo", "cy"]


def random_letter(roll, most_body=4, most_heads=2):
    heads = tuple(roll.choice(NAMES) for _ in range(roll.randrange(most_heads + 1)))
    return heads, roll.randrange(most_body + 1)


def random_mail(roll, most_letters=2, most_rows=2):
    return Mail([
        [random_letter(roll) for _ in range(roll.randrange(1, most_letters + 1))]
        for _ in range(roll.randrange(1, most_rows + 1))
    ])


def random_way(roll, top=3, boxes=0.5, most_keep=60):
    least = roll.randrange(1, top)
    most = roll.randrange(least, min(top, least + 1) + 1)
    told = []
    while roll.random() < boxes and len(told) < 3:
        near = roll.randrange(least + 1)
        keep = roll.randrange(1, most_keep)
        told.append((near, roll.randrange(near, most + 1), keep, keep + roll.randrange(3)))
    return Way(roll.choice([None, 0, 0, 1, 2, 4]), least, most, told)


def random_line(roll, **settings):
    """A small line, with or without bars."""
    ways = [random_way(roll) for _ in range(roll.randrange(1, 4))]
    calm = max([2 * way.most for way in ways if way.begin is not None and way.boxes] + [1])
    told = {
        "mail": random_mail(roll), "ways": ways, "widths": sorted(roll.sample(range(3, 12), roll.randrange(1, 4))),
        "turn": roll.randrange(calm, calm + 8), "numbers": roll.randrange(2, 6),
        "room": Room(roll.randrange(3, 12), Steps(sorted(roll.sample(range(1, 8), roll.randrange(1, 4))))),
        "head": roll.randrange(1, 4), "places": roll.randrange(3), "cost": roll.randrange(2, 4),
        "period": roll.randrange(1, 9), "quiet": roll.randrange(1, 15), "silent": roll.choice([0, 0, 0, 1, 1, 2]),
        "losses": roll.randrange(1, 4),
    }
    told.update(settings)
    return Line(**told)


def hasty_line(roll):
    """A small line without boxes whose turn is short."""
    ways = [random_way(roll, boxes=0) for _ in range(roll.randrange(1, 3))]
    return random_line(roll, ways=ways, turn=roll.randrange(1, 5), numbers=2, head=1, silent=0)
