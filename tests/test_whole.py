"""The whole program: texts, runs, monitors, sessions and consoles tell the same of a line."""

from tests.help import Case, dice
from tests.plainlines import hasty_line, random_line
from tests.plainnets import random_fate
from wholeline.bars import first_bar
from wholeline.console import Console
from wholeline.errors import WholeError
from wholeline.lines import Line, race_of
from wholeline.monitors import is_clean, is_run
from wholeline.nets import Fate, run_line
from wholeline.sessions import Session
from wholeline.texts import read_deeds, read_line, write_line


CHANGES = [
    "change numbers 8", "change room 60", "change bound 1", "change period 3", "change head 1", "change turn 100",
    "change begin 0 -", "change begin 0 7", "letter 0 3 ann", "drop 0 0", "row", "cut",
]


def commands_for(run):
    """The commands that lead a run in which nothing is forgotten, too wide or bent."""
    told = [f"start {run.winner} {run.going} {run.start}"]
    clock = run.start
    sent = {event[2]: event for event in run.events if event[1] in ("sent", "answered")}
    for moment, word, going, _ in run.events:
        if word in ("came", "lost"):
            # What the sender sends goes out when the clock leaves the moment.
            leaves = moment + (word == "lost" and sent[going][1] == "sent")
            if leaves > clock:
                told.append(f"wait {leaves}")
                clock = leaves
            told.append(f"come {going}" if word == "came" else f"lose {going}")
    return told


def read_line_of(moment, letter):
    """The line of `read` for a letter."""
    heads = ["-" if head is None else head for head in letter[0]]
    return " ".join([str(moment), str(letter[1]), *heads])


def led_runs(seed, many):
    """Runs that can be led by hand, and what told them."""
    roll = dice(seed)
    while many:
        line = hasty_line(roll) if roll.random() < 0.3 else random_line(roll)
        fate = random_fate(roll, line, line.widths[-1])
        fate = Fate(fate.width, fate.race, delays=fate.delays, lost=fate.lost, keeps=())
        try:
            run = run_line(line, fate)
        except WholeError:
            continue
        words = [event[1] for event in run.events]
        if run.winner is not None and not run.is_cut and "forgotten" not in words and "wide" not in words:
            many -= 1
            yield run


class WholeTest(Case):
    def test_one_run_in_all_forms(self):
        clean = 0
        for run in led_runs(581, 150):
            console = Console(read_line(write_line(run.line)))
            commands = commands_for(run)
            for command in commands:
                self.same(console.enter(command), ["ok"])
            told = [event for event in run.events if event[1] == "told"]
            self.same(console.enter("read"), [read_line_of(event[0], event[3]) for event in told] or ["none"])
            self.same(console.enter("show")[1:], [])
            self.same(console.enter("line"), write_line(run.line).split("\n"))
            # The same deeds in a session, from their text.
            session = Session(run.line)
            deeds = read_deeds("\n".join(commands))
            for deed in deeds:
                session.do(deed)
            self.same(session.steps_done(), deeds)
            self.same(session.letters_read(), [(event[0], event[3]) for event in told])
            self.assertIs(is_run(read_line(write_line(run.line)), run.fate, run.going, run.events), True)
            clean += is_clean(run)
            for _ in commands:
                self.same(console.enter("undo"), ["ok"])
            self.same([console.enter("undo"), console.enter("show")], [["error NothingToUndo"], ["laid"]])
        self.assertGreater(clean, 100)

    def test_lines_behind_deeds(self):
        """A line that was changed by deeds is that of its text, and of the same settings."""
        roll = dice(582)
        for _ in range(100):
            line = random_line(roll)
            console, session = Console(line), Session(line)
            for command in roll.sample(CHANGES, 6):
                try:
                    session.do(read_deeds(command)[0])
                    self.same(console.enter(command), ["ok"])
                except (WholeError, OverflowError) as error:
                    self.same(console.enter(command), ["error " + type(error).__name__])
            changed = session.line_now()
            self.same(console.enter("line"), write_line(changed).split("\n"))
            self.equal_ones(read_line("\n".join(console.enter("line"))), changed)
            self.assertIsInstance(changed, Line)
            self.same(first_bar(read_line(write_line(changed))), first_bar(changed))
            self.assertEqual(race_of(changed), race_of(read_line(write_line(changed))))
