"""[50]: sessions."""

from tests.help import NO_INTEGERS, Case, Prickly, Same, dice
from tests.plainlines import LINE, line_with, random_line
from tests.plainnets import random_fate
from wholeline.bars import first_bar
from wholeline.errors import (BadChange, BadDeed, BadIndex, BadLetter, BadMoment, BadOrder, BadPart, BadRow, BadSteps,
                              BadWait, NothingToUndo, Started, Stuck, TooMany, WholeError)
from wholeline.letters import Mail
from wholeline.lines import load_of, race_of
from wholeline.nets import Fate, run_line
from wholeline.sessions import Session, Trial
from wholeline.ways import Way

SMALL = line_with(mail=Mail([[((), 4)]]), ways=[Way(0, 2, 5)], silent=0, widths=[4, 6], turn=12, losses=2)
BODY = ("body",)
FIRST, SECOND = ("parcel", 0, False, (BODY,) * 2), ("parcel", 1, True, (BODY,) * 2)
LAID = [("change", ("turn", 20)), ("letter", 0, ((), 1)), ("drop", 0, 0), ("row",), ("cut",), ("start", 0, 5, 2)]
RUNNING = [("wait", 5), ("come", 0), ("lose", 0), ("stop",)]


def started(line=SMALL, way=0, width=None, moment=2):
    session = Session(line)
    session.do(("start", way, line.widths[0] if width is None else width, moment))
    return session


def state_of(session):
    """All that a session tells."""
    told = [session.line_now(), session.is_running(), session.steps_done(), len(session)]
    if session.is_running():
        told += [session.clock(), session.in_air(), session.may_come(), session.letters_read()]
    return told


class LaidTest(Case):
    def test_a_new_session(self):
        session = Session(line=LINE)
        self.assertIs(session.line_now(), LINE)
        self.same([session.is_running(), session.steps_done(), len(session)], [False, [], 0])
        for call in (session.clock, session.in_air, session.may_come, session.letters_read):
            self.raises(Started(None), call)
        for value in NO_INTEGERS + [Same(), Mail]:
            self.raises(BadPart("line"), Session, value)

    def test_changes(self):
        session = Session(LINE)
        self.assertIsNone(session.do(deed=("change", ("turn", 20))))
        session.do(("change", ("begin", 1, None)))
        self.equal_ones(session.line_now(), LINE.changed(("turn", 20)).changed(("begin", 1, None)))
        self.same(session.steps_done(), [("change", ("turn", 20)), ("change", ("begin", 1, None))])
        for change, error in (
            (None, BadChange(None)), (("quiet", 5), BadChange(("quiet", 5))), (("turn", 3), BadPart("turn")),
            (("room", 61), BadPart("size")), (("bound", 0), BadSteps(0)), (("begin", 0, 1001), BadPart("begin")),
            (("begin", 2, 0), BadChange(("begin", 2, 0))),
        ):
            self.raises(error, session.do, ("change", change))
        self.same(len(session), 2)

    def test_letters_and_rows(self):
        session = Session(LINE)
        session.do(("letter", 1, (("bob",), 60)))
        self.same(session.line_now().mail.rows_told()[1], [(("ann",), 1), (("bob",), 60)])
        session.do(("drop", 0, 0))
        self.same(session.line_now().mail.rows_told()[0], [((), 5)])
        session.do(("row",))
        self.same(session.line_now().mail.rows_told()[2], [((), 0)])
        session.do(("cut",))
        session.do(("cut",))
        self.same(session.line_now().mail.rows_told(), [[((), 5)]])
        self.equal_ones(session.line_now(), LINE.with_setting("mail", Mail([[((), 5)]])))
        self.same(len(session), 5)

    def test_their_errors(self):
        session = Session(LINE)
        for value in NO_INTEGERS + [-1, 2, Same()]:
            self.raises(BadIndex(value), session.do, ("letter", value, None))
            self.raises(BadIndex(value), session.do, ("drop", value, None))
            self.raises(BadIndex(value), session.do, ("drop", 0, value))
        for value in NO_INTEGERS + [((), 61), [(), 1], Same()]:
            self.raises(BadLetter(None), session.do, ("letter", 0, value))
        self.raises(BadRow(1), session.do, ("drop", 1, 0))
        for _ in range(4):
            session.do(("letter", 0, ((), 0)))
        self.raises(TooMany(6), session.do, ("letter", 0, ((), 0)))
        session.do(("row",))
        self.raises(TooMany(3), session.do, ("row",))
        for _ in range(2):
            session.do(("cut",))
        self.raises(BadPart("rows"), session.do, ("cut",))
        one = Session(LINE.with_setting("mail", Mail([[((), 5)]])))
        self.raises(BadRow(0), one.do, ("drop", 0, 0))

    def test_no_deeds(self):
        for session in (Session(LINE), started()):
            before = state_of(session)
            for value in NO_INTEGERS + [
                "row", ["row"], ("rows",), ("Row",), (None,), (0,), (b"row",), (Prickly(),), (Same(),), ("row", 0), ("cut", 0), ("change",),
                ("change", 0, 0), ("letter", 0), ("letter", 0, 0, 0), ("drop", 0), ("start", 0, 0), ("start", 0, 0, 0, 0), ("wait",),
                ("wait", 0, 0), ("come",), ("lose",), ("stop", 0), ("undo",), ("try", ("row",)), [("row",)], Same(), 0,
            ]:
                self.raises(BadDeed(None), session.do, value)
            self.same(repr(state_of(session)), repr(before))

    def test_deeds_at_the_wrong_time(self):
        session = Session(LINE)
        for deed in RUNNING + [("wait", None), ("come", Prickly()), ("lose", None)]:
            self.raises(Started(None), session.do, deed)
        session = started(moment=7)
        session.do(("wait", 9))
        for deed in LAID + [("change", None), ("letter", None, None), ("start", None, None, None)]:
            self.raises(Started(9), session.do, deed)

    def test_starts(self):
        line = LINE.changed(("begin", 1, None)).with_setting("silent", 0)
        session = Session(line)
        for way in NO_INTEGERS + [-1, 1, 2, Same()]:
            self.raises(BadPart("way"), session.do, ("start", way, None, None))
        for width in NO_INTEGERS + [4, Same()]:
            self.raises(BadPart("width"), session.do, ("start", 0, width, None))
        for moment in NO_INTEGERS + [-1, 10001, Same()]:
            self.raises(BadMoment(moment), session.do, ("start", 0, 5, moment))
        self.raises(Stuck(0), Session(line_with(widths=[1, 8])).do, ("start", 0, 1, 0))
        self.raises(Stuck(1), Session(line_with(mail=Mail([[((), 1), ((), 11)]]))).do, ("start", 0, 5, 0))
        session.do(("start", 0, 8, 10000))
        self.same([session.clock(), session.is_running(), session.in_air(), session.may_come(), session.letters_read()],
                  [10000, True, [], [], []])
        # Whether the way can win then is not asked.
        self.same(started(LINE, 1, 5, 0).clock(), 0)


class RunningTest(Case):
    def test_a_whole_line(self):
        session = started()
        self.same([session.clock(), session.in_air()], [2, []])
        session.do(("wait", 3))
        self.same([session.clock(), session.in_air(), session.may_come()], [3, [(0, "reader", 2, FIRST)], []])
        session.do(("wait", 4))
        self.same(session.may_come(), [0])
        session.do(("come", 0))
        self.same([session.in_air(), session.may_come()], [[(1, "sender", 4, ("answer", 0, 8))], []])
        session.do(("wait", 9))
        session.do(("come", 1))
        self.same(session.in_air(), [])
        session.do(("wait", 14))
        self.same(session.in_air(), [(2, "reader", 9, SECOND)])
        session.do(("come", 2))
        self.same(session.letters_read(), [(14, ((), 4))])
        session.do(("wait", 16))
        session.do(("come", 3))
        # Nothing is due any more: the clock goes on as far as it likes.
        session.do(("wait", 200000))
        self.same([session.clock(), session.in_air(), session.letters_read()], [200000, [], [(14, ((), 4))]])
        self.same([len(session), session.is_running()], [11, True])

    def test_what_is_due_is_sent_when_the_clock_leaves(self):
        session = started()
        session.do(("wait", 3))
        session.do(("lose", 0))
        # The turn is over at 14, and what is due then goes out behind it.
        session.do(("wait", 14))
        self.same(session.in_air(), [])
        session.do(("wait", 15))
        self.same(session.in_air(), [(1, "reader", 14, FIRST)])

    def test_moments_of_a_wait(self):
        session = started()
        for value in NO_INTEGERS + [0, 1, 2, -5, 200001, 10 ** 12, Same()]:
            self.raises(BadMoment(value), session.do, ("wait", value))
        session.do(("wait", 3))
        self.raises(BadMoment(3), session.do, ("wait", 3))

    def test_most_delays_that_are_over(self):
        session = started()
        # Sent at 2, the first parcel comes at 7 at the latest.
        self.raises(BadWait(0), session.do, ("wait", 8))
        self.raises(BadWait(0), session.do, ("wait", 200000))
        session.do(("wait", 7))
        self.raises(BadWait(0), session.do, ("wait", 8))
        session.do(("come", 0))
        session.do(("wait", 12))
        self.raises(BadWait(1), session.do, ("wait", 13))
        session.do(("lose", 1))
        # Now only what would be sent at 14 stands in the way.
        self.raises(BadWait(2), session.do, ("wait", 20))
        session.do(("wait", 19))
        self.same(session.in_air(), [(2, "reader", 14, FIRST)])

    def test_the_least_number_is_told(self):
        line = SMALL.with_setting("turn", 2)
        session = started(line)
        session.do(("wait", 7))
        self.same([row[0] for row in session.in_air()], [0, 1, 2])
        self.raises(BadWait(0), session.do, ("wait", 8))
        session.do(("come", 0))
        # Number 3 is the answer, of 7; number 1 was sent at 4.
        self.raises(BadWait(1), session.do, ("wait", 13))
        session.do(("lose", 1))
        self.raises(BadWait(2), session.do, ("wait", 13))
        session.do(("lose", 2))
        self.raises(BadWait(3), session.do, ("wait", 14))
        # The answer comes; what would be sent at 8 is number 4.
        session.do(("wait", 12))
        self.same([row[:3] for row in session.in_air()], [(3, "sender", 7), (4, "reader", 8), (5, "reader", 10)])
        session.do(("come", 3))
        self.raises(BadWait(4), session.do, ("wait", 14))

    def test_least_delays(self):
        session = started()
        session.do(("wait", 3))
        self.raises(BadWait(0), session.do, ("come", 0))
        for value in NO_INTEGERS + [1, -1, 10 ** 9, Same()]:
            self.raises(BadIndex(value), session.do, ("come", value))
            self.raises(BadIndex(value), session.do, ("lose", value))
        session.do(("wait", 4))
        session.do(("come", 0))
        self.raises(BadIndex(0), session.do, ("come", 0))
        self.raises(BadIndex(0), session.do, ("lose", 0))
        self.raises(BadWait(1), session.do, ("come", 1))

    def test_the_order_of_one_moment(self):
        session = started(SMALL.with_setting("turn", 1).with_setting("losses", 3))
        session.do(("wait", 5))
        # Numbers 0 to 2, sent at 2 to 4; the last one is too young.
        self.same(session.may_come(), [0, 1])
        session.do(("come", 1))
        self.same(session.may_come(), [])
        self.raises(BadOrder(0), session.do, ("come", 0))
        session.do(("wait", 6))
        session.do(("come", 0))
        # The answer to number 1, and what was sent earlier, at one moment to both ends.
        session.do(("wait", 7))
        told = {row[0]: row[1] for row in session.in_air()}
        self.same(told, {2: "reader", 3: "sender", 4: "reader", 5: "sender", 6: "reader"})
        self.same(session.may_come(), [2, 3, 4])
        session.do(("come", 3))
        # Something has come to the sender: nothing comes to the reader any more.
        self.raises(BadOrder(2), session.do, ("come", 2))
        self.raises(BadOrder(4), session.do, ("come", 4))
        self.same(session.may_come(), [])
        session.do(("wait", 8))
        self.same([row[0] for row in session.in_air()], [2, 4, 5, 6, 7])

    def test_two_answers_at_one_moment(self):
        session = started(SMALL.with_setting("turn", 1))
        session.do(("wait", 5))
        session.do(("come", 0))
        session.do(("come", 1))
        self.same([row[:3] for row in session.in_air()], [(2, "reader", 4), (3, "sender", 5), (4, "sender", 5)])
        session.do(("wait", 7))
        session.do(("come", 4))
        self.raises(BadOrder(3), session.do, ("come", 3))
        session.do(("wait", 8))
        session.do(("come", 3))

    def test_losses(self):
        session = started()
        session.do(("wait", 3))
        session.do(("lose", 0))
        session.do(("wait", 16))
        session.do(("come", 1))
        self.same(session.in_air(), [(2, "sender", 16, ("answer", 0, 8))])
        session.do(("lose", 2))
        session.do(("wait", 27))
        self.raises(BadPart("losses"), session.do, ("lose", 3))
        self.raises(BadIndex(0), session.do, ("lose", 0))
        # Stopped and started again, none is lost yet.
        session.do(("stop",))
        session.do(("start", 0, 4, 0))
        session.do(("wait", 1))
        session.do(("lose", 0))

    def test_stop(self):
        session = started()
        session.do(("wait", 5))
        session.do(("stop",))
        self.same([session.is_running(), len(session)], [False, 3])
        self.raises(Started(None), session.clock)
        self.raises(Started(None), session.do, ("stop",))
        session.do(("change", ("turn", 30)))
        session.do(("start", 0, 6, 9))
        self.same([session.clock(), session.in_air(), session.line_now().turn], [9, [], 30])

    def test_signs_are_things(self):
        line = line_with(mail=Mail([[((), 0)], [((), 0)]]), ways=[Way(0, 1, 3)], silent=0, widths=[4], period=5, quiet=20)
        session = started(line, 0, 4, 0)
        for deed in (("wait", 1), ("come", 0), ("wait", 2), ("come", 1), ("wait", 8)):
            session.do(deed)
        self.same(session.in_air(), [(2, "reader", 7, ("sign",))])
        session.do(("come", 2))
        self.same(session.in_air(), [])
        self.raises(BadWait(3), session.do, ("wait", 16))

    def test_lists_are_new(self):
        session = started()
        session.do(("wait", 4))
        for call in (session.in_air, session.may_come, session.steps_done, session.letters_read):
            told = call()
            told.append(None)
            told.clear()
        self.same([len(session.in_air()), session.may_come(), len(session.steps_done())], [1, [0], 2])


class UndoTest(Case):
    def test_each_kind(self):
        session = Session(LINE)
        self.raises(NothingToUndo("step"), session.undo)
        deeds = [("change", ("turn", 20)), ("letter", 1, ((), 1)), ("drop", 0, 0), ("row",), ("cut",), ("start", 0, 5, 2), ("wait", 4),
                 ("come", 0), ("wait", 5), ("lose", 1), ("wait", 24), ("stop",), ("change", ("head", 1)), ("start", 1, 8, 0), ("wait", 3)]
        states = [state_of(session)]
        for deed in deeds:
            session.do(deed)
            states.append(state_of(session))
        self.same(session.steps_done(), deeds)
        for state in states[-2::-1]:
            self.assertIsNone(session.undo())
            self.assertEqual(state_of(session), state)
        self.raises(NothingToUndo("step"), session.undo)
        # All goes on as it did.
        for deed, state in zip(deeds, states[1:]):
            session.do(deed)
            self.assertEqual(state_of(session), state)

    def test_a_stop_undone(self):
        session = started()
        session.do(("wait", 4))
        before = state_of(session)
        session.do(("stop",))
        session.undo()
        self.assertEqual(state_of(session), before)
        session.do(("come", 0))
        self.same(session.clock(), 4)

    def test_what_raised_is_no_step(self):
        session = started()
        session.do(("wait", 5))
        before = state_of(session)
        for deed in (("wait", 5), ("wait", 99), ("come", 9), ("row",), ("nothing",)):
            with self.assertRaises(WholeError):
                session.do(deed)
            self.assertEqual(state_of(session), before)

    def test_many_steps(self):
        session = started(line_with(ways=[Way(0, 1, 1)], silent=0, mail=Mail([[((), 0)]])), 0, 5, 0)
        for deed in (("wait", 1), ("come", 0), ("wait", 2), ("come", 1)):
            session.do(deed)
        for moment in range(3, 20003):
            session.do(("wait", moment))
        self.same([len(session), session.clock()], [20005, 20002])
        for _ in range(20000):
            session.undo()
        self.same([len(session), session.clock(), session.letters_read()], [5, 2, [(1, ((), 0))]])


class TrialTest(Case):
    def test_it_is_put_back(self):
        session = started()
        session.do(("wait", 4))
        before = state_of(session)
        with Trial(session) as trial:
            self.assertIs(trial, session)
            trial.do(("come", 0))
            trial.do(("wait", 6))
            self.same(len(session), 4)
        self.assertEqual(state_of(session), before)
        with Trial(session=session):
            for _ in range(2):
                session.undo()
            self.same([len(session), session.is_running()], [0, False])
            session.do(("change", ("turn", 99)))
            session.do(("row",))
            session.do(("row",))
        self.assertEqual(state_of(session), before)
        session.undo()
        self.same(session.clock(), 2)

    def test_behind_an_error(self):
        session = started()
        session.do(("wait", 4))
        before = state_of(session)
        with self.assertRaises(BadIndex) as caught:
            with Trial(session):
                session.do(("stop",))
                session.do(("cut",)) if len(session.line_now().mail.rows_told()) > 1 else session.do(("row",))
                session.do(("drop", 7, 7))
        self.same(caught.exception.index, 7)
        self.assertEqual(state_of(session), before)
        with self.assertRaises(ZeroDivisionError):
            with Trial(session):
                session.undo()
                raise ZeroDivisionError
        self.assertEqual(state_of(session), before)

    def test_where_it_was_when_it_was_entered(self):
        session = Session(LINE)
        trial = Trial(session)
        session.do(("row",))
        with trial:
            session.do(("cut",))
        self.same(session.steps_done(), [("row",)])
        # Used again, and one in another one.
        session.do(("cut",))
        with trial:
            with Trial(session):
                session.do(("row",))
                session.undo()
                session.undo()
            self.same(session.steps_done(), [("row",), ("cut",)])
            session.do(("change", ("turn", 50)))
        self.same([session.steps_done(), session.line_now().turn], [[("row",), ("cut",)], 12])

    def test_one_within_itself(self):
        session = Session(LINE)
        trial = Trial(session)
        before = session.steps_done()
        with trial:
            session.do(("row",))
            with trial:
                session.do(("cut",))
                session.do(("start", 0, 5, 2))
            self.same([session.steps_done(), session.is_running()], [[("row",)], False])
            session.do(("start", 0, 5, 3))
        self.same([session.steps_done(), session.is_running()], [before, False])
        self.equal_ones(session.line_now(), LINE)

    def test_steps_behind_a_trial(self):
        session = Session(LINE)
        with Trial(session):
            session.do(("row",))
        session.do(("cut",))
        session.do(("row",))
        session.undo()
        session.undo()
        self.equal_ones(session.line_now(), LINE)
        self.raises(NothingToUndo("step"), session.undo)


class ManyTest(Case):
    def test_nothing_in_common(self):
        one, other = started(), started()
        one.do(("wait", 4))
        one.do(("come", 0))
        self.same([other.clock(), other.in_air(), len(other)], [2, [], 1])
        other.do(("wait", 5))
        self.same([one.clock(), other.clock()], [4, 5])
        self.assertIs(one == other, False)
        self.not_iterated(one)


def lead(test, run):
    """A session led to the events of a run in which nothing is forgotten, too wide or bent."""
    session = started(run.line, run.winner, run.going, run.start)
    sent = {
        event[2]: (event[2], "reader" if event[1] == "sent" else "sender", event[0], event[3])
        for event in run.events if event[1] in ("sent", "answered")
    }
    air = []
    for moment, word, going, _ in run.events:
        if word in ("came", "lost"):
            if moment > session.clock():
                session.do(("wait", moment))
            if word == "lost" and going not in [row[0] for row in session.in_air()]:
                # What the sender sends goes out when the clock leaves the moment.
                session.do(("wait", moment + 1))
            air += [row for row in session.in_air() if row[0] == going]
            if word == "came":
                test.assertIn(going, session.may_come())
            session.do(("come" if word == "came" else "lose", going))
    # Each going was in the air as it went out in the run.
    test.assertEqual(sorted(air), [sent[going] for going in sorted(sent)])
    return session


class RunsTest(Case):
    def test_runs_led_by_a_session(self):
        roll = dice(571)
        looked = 0
        for _ in range(1500):
            line = random_line(roll)
            fate = random_fate(roll, line, line.widths[-1])
            try:
                run = run_line(line, fate, going=roll.choice(line.widths))
            except WholeError:
                continue
            words = [event[1] for event in run.events]
            bent = any(event[1] == "came" and event[3] is None for event in run.events)
            if run.is_cut or run.winner is None or "forgotten" in words or "wide" in words or bent:
                continue
            looked += 1
            session = lead(self, run)
            self.same(session.letters_read(), [(event[0], event[3]) for event in run.events if event[1] == "told"])
            self.same(session.in_air(), [])
            session.do(("wait", session.clock() + 50))
            self.same(session.in_air(), [])
        self.assertGreater(looked, 200)

    def test_drawn_sessions(self):
        """Whatever is done on a line without a bar, the letters that were read are the first ones, in order and in time."""
        roll = dice(572)
        looked = 0
        while looked < 120:
            line = random_line(roll, head=1)
            winners = race_of(line).winners()
            if first_bar(line) is not None or not winners:
                continue
            looked += 1
            way = roll.choice(winners)
            width = roll.choice(line.widths)
            start = roll.randrange(line.ways[way].window()[0], race_of(line).last_win(way) + 1)
            session = started(line, way, width, start)
            self.led_at_random(roll, session, line)
            letters = [letter for _, letter in session.letters_read()]
            self.same(letters, line.mail.letters_told())
            parcels = sum(load_of(line, width).rows)
            most = line.ways[way].most
            rest = (len(line.mail.rows_told()) - 1) * line.quiet + line.losses * line.turn
            self.assertLessEqual(session.letters_read()[-1][0] - start, (2 * parcels - 1) * most + rest)

    def led_at_random(self, roll, session, line):
        """Do what can be done until all is answered; now and then a step is taken back."""
        refused = 0
        while not self.is_over(session, line):
            deeds = [("come", number) for number in session.may_come()]
            deeds += [("lose", row[0]) for row in session.in_air()][:1] if roll.random() < 0.2 else []
            deeds += [("wait", session.clock() + step) for step in (1, 1, 2, 9)]
            before = len(session)
            try:
                session.do(roll.choice(deeds))
                refused = 0
            except (BadWait, BadPart):
                self.same(len(session), before)
                refused += 1
            letters = [letter for _, letter in session.letters_read()]
            self.assertEqual(letters, line.mail.letters_told()[:len(letters)])
            if refused == 20:
                # Something came ahead of an older thing whose most delay is over now.
                for _ in range(min(4, len(session) - 1)):
                    session.undo()
                refused = 0
            elif roll.random() < 0.1:
                state = state_of(session)
                deed = session.steps_done()[-1]
                session.undo()
                session.do(deed)
                self.assertEqual(state_of(session), state)

    def is_over(self, session, line):
        """Whether nothing is in the air and nothing is due."""
        if session.in_air() or len(session.letters_read()) < len(line.mail):
            return False
        try:
            with Trial(session):
                session.do(("wait", session.clock() + 1000))
            return True
        except BadWait:
            return False

    def test_the_same_as_a_run_with_these_delays(self):
        run = run_line(SMALL, Fate(4, ((2, 2),), delays=(5, 2, 3, 4), lost=(1,)))
        session = lead(self, run)
        self.same(session.letters_read(), [(event[0], event[3]) for event in run.events if event[1] == "told"])
