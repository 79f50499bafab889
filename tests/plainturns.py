"""Courses played moment by moment, which the tests of Part 4 share."""

from itertools import product

from wholeline.turns import play


def fates_of(turn):
    """All fates of a sending: answered ones, then come ones, then lost."""
    delays = range(turn.least, turn.most + 1)
    answered = [("answered", x, y) for x, y in product(delays, repeat=2)]
    return answered + [("come", x) for x in delays] + [("lost",)]


def plain_borders(load):
    """The parcels behind which a row ends, the last row left out."""
    ends = []
    total = 0
    for row in load.rows[:-1]:
        total += row
        ends.append(total - 1)
    return ends


def plain_play(turn, load, course):
    """What a course shows, by the words of [7] and [22], as a dict."""
    many = sum(load.rows)
    on_way, answers = [], []
    sent, taken, closed = [], [], []
    current, is_open, due = 0, False, 0
    short = False
    moment = 0
    while True:
        # The reader looks, in the order of sending; answers are sent in this order.
        for index in [index for index, at in on_way if at == moment]:
            number = sent[index][1] % turn.numbers
            if number == len(taken) % turn.numbers:
                taken.append((moment, index))
            if course[index][0] == "answered":
                answers.append((index, number, moment + course[index][2]))
        on_way = [(index, at) for index, at in on_way if at > moment]
        for index, number, at in answers:
            if at == moment and is_open and number == current % turn.numbers:
                closed.append((moment, current, index))
                is_open = False
                due = moment + (load.quiet if current in plain_borders(load) else 0)
                current += 1
        answers = [row for row in answers if row[2] > moment]
        if current < many and due == moment:
            if len(sent) == len(course):
                short = True
                break
            fate = course[len(sent)]
            if fate[0] != "lost":
                on_way.append((len(sent), moment + fate[1]))
            sent.append((moment, current))
            is_open = True
            due = moment + turn.turn
        if current == many and not on_way and not answers:
            break
        moment += 1
    used = course[:len(sent)]
    idle = len(course) - len(sent)
    wrong = [at for at, (_, index) in enumerate(taken) if sent[index][1] != at]
    reached = {sent[index][1] for _, index in taken} | {sent[index][1] for index, _ in on_way}
    untaken = [parcel for _, parcel, _ in closed if parcel not in reached]
    return {
        "sent": tuple(sent), "taken": tuple(taken), "closed": tuple(closed),
        "lost": sum(fate[0] != "answered" for fate in used), "short": short, "idle": idle,
        "fault": not idle and bool(wrong or untaken),
    }


def random_course(roll, turn, load, lossy=0.3):
    """A whole course."""
    fates = fates_of(turn)
    heard = [fate for fate in fates if fate[0] == "answered"]
    course = []
    while play(turn, load, course).short:
        course.append(roll.choice(fates) if roll.random() < lossy else roll.choice(heard))
    return tuple(course)


def whole_courses(turn, load, losses, limit=100000):
    """All whole courses with at most so many losses, and what they show."""
    waiting = [()]
    while waiting:
        course = waiting.pop()
        told = play(turn, load, course)
        if not told.short:
            yield course, told
        else:
            for fate in fates_of(turn):
                if fate[0] == "answered" or told.lost < losses:
                    waiting.append(course + (fate,))
        limit -= 1
        assert limit > 0, "too many courses"
