"""[48]: what a run alone shows."""

from tests.help import NO_INTEGERS, Case, Prickly, Same, dice
from tests.plainfates import fate_of_course
from tests.plainlines import LINE, hasty_line, line_with, plain_lengths, plain_wins, random_line
from tests.plainnets import item, random_fate
from wholeline.bars import bars, first_bar
from wholeline.errors import BadBox, WholeError
from wholeline.faultruns import fault_course
from wholeline.gaps import greatest_gap
from wholeline.boxes import spread_of
from wholeline.letters import Mail
from wholeline.lines import load_of, race_of, road_on, turn_on
from wholeline.linetimes import way_times
from wholeline.monitors import (course_of, flaw, is_clean, is_run, most_held, seen_by, takings, told_times,
                                widest_gap)
from wholeline.nets import Fate, run_line
from wholeline.numbers import first_fault
from wholeline.races import win_run
from wholeline.turns import play
from wholeline.ways import Way

RACE = ((1, 1), (1, 1))


def runs_of(seed, many, lines=random_line, **settings):
    """Runs of small lines by drawn fates."""
    roll = dice(seed)
    while many:
        line = lines(roll)
        fate = random_fate(roll, line, roll.choice(line.widths))
        try:
            yield run_line(line, fate, going=roll.choice([None, None, *line.widths]))
            many -= 1
        except WholeError:
            pass


def plain_takings(run):
    """The parcels that are taken: each parcel is opened when the one ahead of it is closed."""
    opened, parcels, taken = 0, {}, []
    for event in run.events:
        if event[1] == "closed":
            opened += 1
        if event[1] == "sent":
            parcels[event[2]] = opened
        if event[1] == "taken":
            taken.append(parcels[event[2]])
    return tuple(taken)


def plain_flaw(run):
    taken = plain_takings(run)
    for place, parcel in enumerate(taken):
        if parcel != place:
            return ("twice" if parcel in taken[:place] else "other"), place
    load = load_of(run.line, run.going)
    return None if load is not None and len(taken) == sum(load.rows) else ("missing", len(taken))


class CleanTest(Case):
    def test_a_clean_run(self):
        run = run_line(LINE, Fate(5, RACE))
        self.same([is_clean(run=run), flaw(run=run), takings(run=run)], [True, None, tuple(range(7))])
        self.same([told_times(run=run), most_held(run=run)], [(7, 11, 35), 9])

    def test_nothing_is_taken(self):
        run = run_line(line_with(silent=2), Fate(5, (None, None)))
        self.same([is_clean(run), flaw(run), takings(run), told_times(run), most_held(run), course_of(run)],
                  [False, ("missing", 0), (), (), 0, ()])
        # A line with a stuck letter, on which nothing goes out.
        run = run_line(line_with(silent=2, widths=[1, 5]), Fate(5, (None, None)))
        self.same([is_clean(run), flaw(run)], [False, ("missing", 0)])

    def test_one_missing(self):
        line = line_with(ways=[Way(0, 1, 2, [(0, 1, 40, 60)]), Way(1, 1, 3)], mail=Mail([[((), 9)], [((), 4)]]))
        run = run_line(line.with_setting("ways", [Way(0, 1, 2, [(0, 0, 3, 3)]), Way(1, 1, 3)]), Fate(5, RACE))
        self.same([flaw(run), run.is_cut], [("missing", 3), True])
        # All but the last parcel are taken, for nothing comes behind the quiet.
        self.same(len(told_times(run)), 1)

    def test_twice(self):
        # With a turn of 2 a copy comes when its number is waited for again.
        line = line_with(mail=Mail([[((), 0)] * 3]), ways=[Way(0, 1, 5)], silent=0, turn=2)
        self.same(first_fault(turn_on(line, 0), load_of(line, 5)), ("copy", 0))
        fate = fate_of_course(line, 0, ((1, 1),), fault_course(turn_on(line, 0), load_of(line, 5)))
        run = run_line(line, fate)
        self.same([flaw(run), takings(run)[:3]], [("twice", 2), (0, 1, 0)])
        self.assertIs(is_clean(run), False)

    def test_another_one(self):
        # The answer to the first parcel is taken for that to the third one, which is lost; the fourth has a number that
        # is not waited for, the fifth one the number of the third one.
        line = line_with(mail=Mail([[((), 0)] * 5]), ways=[Way(0, 1, 3)], silent=0, turn=4, losses=1)
        self.same(first_fault(turn_on(line, 0), load_of(line, 5))[0], "copy")
        roll = dice(541)
        words = set()
        for _ in range(3000):
            fate = Fate(5, ((1, 1),), delays=tuple(roll.randrange(1, 4) for _ in range(14)), lost=(roll.randrange(12),))
            run = run_line(line, fate)
            self.same(flaw(run), plain_flaw(run))
            words.add(flaw(run) and flaw(run)[0])
        self.assertEqual(words, {None, "twice", "other", "missing"})

    def test_drawn_runs(self):
        words = {}
        for run in list(runs_of(542, 300)) + list(runs_of(543, 500, hasty_line)):
            self.same(takings(run), plain_takings(run))
            self.same(flaw(run), plain_flaw(run))
            self.assertIs(is_clean(run), plain_flaw(run) is None)
            told = [event for event in run.events if event[1] == "told"]
            self.same(told_times(run), tuple(event[0] for event in told))
            word = flaw(run) and flaw(run)[0]
            words[word] = words.get(word, 0) + 1
            if is_clean(run):
                # Each letter is told once, in order, as it was written.
                self.same([event[2:] for event in told], list(enumerate(run.line.mail.letters_told())))
            self.same(most_held(run), self.plain_held(run))
        self.assertGreater(min(words[None], words["missing"]), 50)

    def plain_held(self, run):
        held, most = 0, 0
        for event in run.events:
            if event[1] == "taken":
                held += len(event[3][3])
                most = max(most, held)
                held = 0 if event[3][2] else held
        return most


class BoxTest(Case):
    def test_the_line(self):
        run = run_line(LINE, Fate(5, RACE))
        # The begin, parcels each 2 moments from 2 on, signs from 17 on, parcels at 32 and 34.
        self.same(seen_by(run=run, box=0), (0, 2, 4, 6, 8, 10, 17, 22, 27, 32, 34))
        self.same(widest_gap(run=run, box=0), 7)
        moved = run_line(LINE, Fate(5, RACE, offsets=((1, 0, 1),), delays=(1, 1, 1, 2), lost=(2,)))
        self.same(seen_by(moved, 0)[:4], (1, 2, 16, 19))
        self.same(widest_gap(moved, 0), 14)

    def test_one_way_alone_has_boxes(self):
        run = run_line(LINE, Fate(5, (None, (1, 1))))
        for box in NO_INTEGERS + [0, 1, -1, Same()]:
            self.raises(BadBox(box), seen_by, run, box)
            self.raises(BadBox(box), widest_gap, run, box)
        run = run_line(LINE, Fate(5, RACE))
        for box in NO_INTEGERS + [1, -1, 10 ** 9, Same()]:
            self.raises(BadBox(box), seen_by, run, box)
            self.raises(BadBox(box), widest_gap, run, box)
        silent = run_line(line_with(silent=2), Fate(5, (None, None)))
        self.raises(BadBox(0), seen_by, silent, 0)

    def test_as_if_nothing_were_forgotten(self):
        line = line_with(ways=[Way(0, 1, 2, [(0, 0, 1, 1), (0, 1, 40, 40)])], silent=0)
        run = run_line(line, Fate(5, ((1, 1),)))
        self.same(seen_by(run, 0)[:4], (0, 2, 14, 26))
        self.same([len(seen_by(run, 0)), len(seen_by(run, 1))], [5001, 5001])
        self.same(widest_gap(run, 1), 12)

    def test_not_later_than_at_the_reader(self):
        # The beginning is one moment on its way, its answer two; what the race tells of the answer changes nothing.
        line = line_with(ways=[Way(0, 1, 2, [(0, 2, 40, 40)])], silent=0)
        for there, back in ((1, 2), (2, 1), (1, 1), (2, 2)):
            run = run_line(line, Fate(5, ((there, back),), offsets=((2, 2),), delays=(1,)))
            self.same(seen_by(run, 0)[:2], (there, there + back + 1))

    def test_the_beginning_alone(self):
        # All that goes out is the one parcel, lost, of a cut run; so at least two things come to the box otherwise.
        for run in runs_of(544, 150):
            if run.winner is None:
                continue
            way = run.line.ways[run.winner]
            lost = [event[2] for event in run.events if event[1] == "lost"]
            for box in range(len(way.boxes)):
                offsets = item(run.fate.offsets, box, ())
                near = way.boxes[box][0]
                seen = [way.begin + min(item(offsets, 0, near), run.fate.race[run.winner][0])]
                sent = [event for event in run.events if event[1] == "sent"]
                for index, event in enumerate(sent, start=1):
                    if event[2] not in lost:
                        delay = item(run.fate.delays, event[2], way.least)
                        seen.append(event[0] + min(item(offsets, index, near), delay))
                self.same(seen_by(run, box), tuple(sorted(seen)))
                gaps = [later - sooner for sooner, later in zip(sorted(seen), sorted(seen)[1:])]
                self.same(widest_gap(run, box), max(gaps, default=0))


class CourseTest(Case):
    def test_each_fate(self):
        line = line_with(ways=[Way(0, 1, 3, [(0, 0, 40, 40)])], silent=0, losses=3, mail=Mail([[((), 9)]]))
        fate = Fate(5, ((1, 1),), delays=(2, 3, 1, 1, 1, 3), lost=(2, 4), bends=((5, ((3, 0),)),))
        run = run_line(line, fate)
        # The answer to the second sending is lost, as the third one is; the fourth one is bent.
        self.same(course_of(run=run)[:5], (("answered", 2, 3), ("lost",), ("come", 1), ("lost",), ("answered", 1, 1)))
        bent = Fate(5, ((1, 1),), bends=((1, ((3, 9),)),))
        self.same(course_of(run_line(line, bent))[:2], (("come", 1), ("answered", 1, 1)))

    def test_wide_and_forgotten_ones(self):
        line = line_with(ways=[Way(0, 1, 3, [(0, 0, 1, 40)])], silent=0)
        for run in (run_line(line, Fate(5, ((1, 1),))), run_line(line, Fate(5, ((1, 1),), keeps=(40,)), going=8)):
            self.same(course_of(run), (("lost",),) * 5000)

    def test_of_a_cut_run(self):
        # A turn of 1: the last parcels are on their way, and answers, too.
        mail = Mail([[((), 60)] * 6, [((), 60)] * 6])
        line = line_with(mail=mail, ways=[Way(0, 5, 5)], silent=0, widths=[3], turn=1, numbers=8, losses=3)
        line = line.changed(("room", 60)).changed(("bound", 1))
        run = run_line(line, Fate(3, ((5, 5),)))
        told = course_of(run)
        sent = [event for event in run.events if event[1] == "sent" and event[3][0] == "parcel"]
        self.same([run.is_cut, len(told)], [True, len(sent)])
        end = run.events[-1][0]
        for event, fate in zip(sent, told):
            self.same(fate, ("answered", 5, 5) if event[0] + 5 <= end else ("lost",))
        self.same(told[-6:], (("answered", 5, 5),) + (("lost",),) * 5)
        # An answer that is still on its way is there, with both delays, unless it is lost or bent.
        last = max(event[2] for event in run.events if event[1] == "answered")
        for parts, fate in (({"lost": (last,)}, ("come", 5)), ({"bends": ((last, ((3, 99),)),)}, ("come", 5)), ({}, ("answered", 5, 5))):
            self.same(course_of(run_line(line, Fate(3, ((5, 5),), **parts)))[-6], fate)

    def test_played_it_shows_the_same(self):
        """[48] (c)."""
        looked = 0
        for run in list(runs_of(545, 400)) + list(runs_of(546, 400, hasty_line)):
            words = [event[1] for event in run.events]
            if run.is_cut or run.winner is None or "forgotten" in words:
                continue
            sent = [event for event in run.events if event[1] == "sent" and event[3][0] == "parcel"]
            came = [at for at, event in enumerate(run.events) if event[1] == "came" and event[3] and event[3][0] == "parcel"]
            if not all("answered" in [event[1] for event in run.events[at + 1:at + 4]][:3] and self.is_answered(run, at) for at in came):
                continue
            looked += 1
            turn, load = turn_on(run.line, run.winner), load_of(run.line, run.going)
            told = play(turn, load, course_of(run))
            self.same([told.short, told.idle], [False, 0])
            index = {event[2]: at for at, event in enumerate(sent)}
            self.same(told.taken, tuple((event[0] - run.start, index[event[2]]) for event in run.events if event[1] == "taken"))
            closed = [event[0] - run.start for event in run.events if event[1] == "closed"]
            self.same(tuple(row[:2] for row in told.closed), tuple((moment, at) for at, moment in enumerate(closed)))
            self.same(told.sent, tuple((event[0] - run.start, parcel) for event, parcel in zip(sent, self.parcels(run))))
        self.assertGreater(looked, 300)

    def is_answered(self, run, at):
        for event in run.events[at + 1:]:
            if event[1] not in ("taken", "told"):
                return event[1] == "answered"
        return False

    def parcels(self, run):
        opened, told = 0, []
        for event in run.events:
            opened += event[1] == "closed"
            if event[1] == "sent" and event[3][0] == "parcel":
                told.append(opened)
        return told


class PromisesTest(Case):
    """[48] (a), (b) and (d), on drawn lines and fates."""

    def lines(self, seed, many):
        roll = dice(seed)
        while many:
            line = hasty_line(roll) if roll.random() < 0.4 else random_line(roll, head=1, silent=roll.choice([0, 0, 1]))
            if first_bar(line) is None:
                many -= 1
                yield roll, line

    def test_lines_without_a_bar(self):
        edges = set()
        for roll, line in self.lines(547, 150):
            times = {way: (low, high) for way, low, high in way_times(line)}
            for _ in range(6):
                run = run_line(line, random_fate(roll, line, roll.choice(line.widths)))
                self.same([is_clean(run), run.is_cut, flaw(run)], [True, False, None])
                low, high = times[run.winner]
                self.assertTrue(low <= told_times(run)[-1] <= high)
                edges |= {low == told_times(run)[-1]}
                way = line.ways[run.winner]
                for box in range(len(way.boxes)):
                    greatest = greatest_gap(road_on(line, run.winner)) + spread_of(way.boxes[box])
                    self.assertLessEqual(widest_gap(run, box), greatest)
                self.assertLessEqual(most_held(run), line.room.size)
                letters = [event[3] for event in run.events if event[1] == "told"]
                self.same(letters, line.mail.letters_told())
        self.assertEqual(edges, {True, False})

    def test_parcels_and_units_of_clean_runs(self):
        looked = 0
        for run in list(runs_of(548, 300)) + list(runs_of(549, 200, hasty_line)):
            if is_clean(run):
                parcels = {}
                for event in run.events:
                    if event[1] == "taken":
                        parcels[event[2]] = event[3]
                self.same(len(parcels), sum(load_of(run.line, run.going).rows))
                self.same(sum(len(message[3]) for message in parcels.values()), sum(plain_lengths(run.line)))
                looked += 1
        self.assertGreater(looked, 200)

    def test_lines_with_a_bar(self):
        # What papers of bars show as runs stands in test_barpapers; here by drawn fates.
        roll = dice(550)
        found = looked = 0
        while looked < 60:
            line = hasty_line(roll)
            if [bar[0] for bar in bars(line)] == ["numbers"]:
                looked += 1
                found += any(not is_clean(run_line(line, self.hasty_fate(roll, line))) for _ in range(200))
        self.assertGreater(found, 20)

    def hasty_fate(self, roll, line):
        """A fate of least and most delays, on a way on which the load does not hold."""
        way = bars(line)[0][1]
        race = race_of(line)
        told = race.ways[way]
        delays = tuple(roll.choice([told.least, told.most]) for _ in range(24))
        return Fate(line.widths[0], win_run(race, way, told.window()[0]), delays=delays, lost=(roll.randrange(12),))

    def test_the_wins(self):
        for roll, line in self.lines(551, 40):
            wins = plain_wins(line)
            self.same(sorted(wins), list(race_of(line).winners()))
            for way in wins:
                run = run_line(line, Fate(line.widths[0], win_run(race_of(line), way, max(wins[way]))))
                self.same((run.winner, run.start), (way, max(wins[way])))


class IsRunTest(Case):
    def test_runs(self):
        for run in runs_of(552, 120):
            self.assertIs(is_run(run.line, run.fate, run.going, run.events), True)
            self.assertIs(is_run(line=run.line, fate=run.fate, going=run.going, events=run.events[:-1]), not run.events)
            self.assertIs(is_run(run.line, run.fate, run.going, list(run.events)), False)
            self.assertIs(is_run(run.line, run.fate, None, run.events), run_line(run.line, run.fate).events == run.events
                          if self.goes(run) else False)

    def goes(self, run):
        try:
            return bool(run_line(run.line, run.fate))
        except WholeError:
            return False

    def test_no_truth_for_an_integer(self):
        # The first moment is 2, a going 0 and 1.
        run = run_line(LINE, Fate(5, RACE))
        events = run.events
        self.assertIs(is_run(LINE, run.fate, 5, events), True)
        for at, event in enumerate(events):
            for place, value in enumerate(event):
                for other in (None, True, False, 1.0 if value == 1 else 0.0, str(value), Prickly(), Same(), [value], (), -1):
                    bent = events[:at] + (event[:place] + (other,) + event[place + 1:],) + events[at + 1:]
                    if not isinstance(other, (Prickly, Same)) and repr(bent) == repr(events):
                        continue
                    self.assertIs(is_run(LINE, run.fate, 5, bent), False)

    def test_truths_in_messages(self):
        run = run_line(LINE, Fate(5, RACE))
        self.same(run.events[0][3][1:3], (0, False))
        first = run.events[0]
        for message in (("parcel", False, False, first[3][3]), ("parcel", 0, 0, first[3][3]), ("parcel", 0, False, list(first[3][3])),
                        ("parcel", 0, None, first[3][3]), list(first[3])):
            self.assertIs(is_run(LINE, run.fate, 5, ((*first[:3], message), *run.events[1:])), False)

    def test_other_words_and_parts(self):
        # Each is of the kind that stands there, but not what the run tells.
        run = run_line(LINE, Fate(5, RACE))
        first, told = run.events[0], [event for event in run.events if event[1] == "told"][0]
        kind, number, last, units = first[3]
        for message in (("sign", number, last, units), (kind, number + 1, last, units), (kind, number, not last, units),
                        (kind, number, last, units[:-1]), (kind, number, last, (*units[:-1], ("body",), ("body",)))):
            self.assertIs(is_run(LINE, run.fate, 5, ((*first[:3], message), *run.events[1:])), False)
        for event in ((first[0] + 1, *first[1:]), (first[0], "lost", *first[2:]), (*first[:2], 1, first[3])):
            self.assertIs(is_run(LINE, run.fate, 5, (event, *run.events[1:])), False)
        at = run.events.index(told)
        (one, *others), body = told[3]
        for letter in ((("zoe", *others), body), ((one, *others), body + 1), ((one, None), body), ((one, *others),)):
            bent = (*run.events[:at], (*told[:3], letter), *run.events[at + 1:])
            self.assertIs(is_run(LINE, run.fate, 5, bent), False)

    def test_any_values(self):
        run = run_line(LINE, Fate(5, RACE))
        for value in NO_INTEGERS + [0, Same()]:
            self.assertIs(is_run(value, run.fate, 5, run.events), False)
            self.assertIs(is_run(LINE, value, 5, run.events), False)
            self.assertIs(is_run(LINE, run.fate, 5, value), False)
            if value is not None:
                self.assertIs(is_run(LINE, run.fate, value, run.events), False)
        self.assertIs(is_run(LINE, Fate(4, RACE), 5, run.events), False)
        self.assertIs(is_run(LINE, Fate(5, RACE, bends=((0, ((99, 0),)),)), 5, run.events), False)
        self.assertIs(is_run(line_with(widths=[1, 5]), Fate(5, RACE), 1, ()), False)
        # A run without an answer has no events.
        self.assertIs(is_run(line_with(silent=2), Fate(5, (None, None)), None, ()), True)
