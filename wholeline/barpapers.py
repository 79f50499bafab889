"""Papers of bars, which show by a run that a line has one."""

from wholeline.bars import first_bar, is_narrow
from wholeline.boxpapers import forgetting_paper, shows_forgetting
from wholeline.errors import NoBar
from wholeline.faultruns import fault_course
from wholeline.kinds import is_index, is_told_by
from wholeline.lines import cap_of, least_load, lengths_of, race_of, road_on, turn_on
from wholeline.racepapers import shows_unanswered, shows_win
from wholeline.races import win_run
from wholeline.roompapers import lets_room, room_paper
from wholeline.turnpapers import shows_fault


def bar_paper(line):
    """A paper of the first bar."""
    bar = first_bar(line)
    if bar is None:
        raise NoBar(line)
    word = bar[0]
    if word == "ways":
        return ("ways", (None,) * len(line.ways))
    if word == "width":
        return bar
    if word == "room":
        return (*bar, room_paper(line.room, cap_of(line, line.widths[0]), lengths_of(line)[bar[1]]))
    if word == "numbers":
        return numbers_paper(line, bar[1])
    return boxes_paper(line, bar[1])


def numbers_paper(line, way):
    """A paper that numbers and turn do not do on a way."""
    race = race_of(line)
    at = race.last_win(way)
    return ("numbers", way, at, win_run(race, way, at), fault_course(turn_on(line, way), least_load(line)))


def boxes_paper(line, way):
    """A paper that a box of a way can forget it."""
    forgetting = forgetting_paper(road_on(line, way))
    return ("boxes", way, win_run(race_of(line), way, won_at(forgetting)), forgetting)


def won_at(forgetting):
    """The moment at which the way wins in a forgetting paper."""
    return forgetting[3][0][3]


def shown_bar(line, value):
    """The bar that any value shows, None if it shows none."""
    if is_told_by(value, "ways", 2):
        return ("ways",) if shows_unanswered(race_of(line), value[1]) else None
    if is_told_by(value, "width", 2):
        return ("width", value[1]) if shows_narrow(line, value[1]) else None
    if is_told_by(value, "room", 3):
        return ("room", value[1]) if shows_stuck(line, value[1], value[2]) else None
    if is_told_by(value, "numbers", 5):
        return ("numbers", value[1]) if shows_numbers(line, value[1:]) else None
    if is_told_by(value, "boxes", 4):
        return ("boxes", value[1], value[3][1]) if shows_boxes(line, value[1:]) else None
    return None


def shows_narrow(line, index):
    """Whether any value is the index of a letter for which the least width has no unit."""
    return is_index(index, len(line.mail)) and is_narrow(line, lengths_of(line)[index])


def shows_stuck(line, index, stuck):
    """Whether any values are the index of a letter and a paper that it is stuck with the least width."""
    if not is_index(index, len(line.mail)) or not is_told_by(stuck, "stuck", 2):
        return False
    return lets_room(line.room, cap_of(line, line.widths[0]), lengths_of(line)[index], stuck)


def shows_numbers(line, told):
    """Whether any values (way, at, run, course) show that a load does not hold on a way that wins."""
    way, at, run, course = told
    load = least_load(line)
    if load is None or not shows_win(race_of(line), way, at, run):
        return False
    return shows_fault(turn_on(line, way), load, line.losses, ("fault", course))


def shows_boxes(line, told):
    """Whether any values (way, run, forgetting) show that a box forgets a way that wins."""
    way, run, forgetting = told
    if not is_index(way, len(line.ways)):
        return False
    road = road_on(line, way)
    if road is None or not shows_forgetting(road, forgetting):
        return False
    return shows_win(race_of(line), way, won_at(forgetting), run)
