"""[47]: fates, and the runs of lines."""

from tests.help import NO_INTEGERS, Case, Prickly, Same, dice
from tests.plainlines import LINE, line_with, random_line
from tests.plainnets import PlainNet, random_fate
from wholeline.errors import BadFate, BadPart, Stuck, WholeError
from wholeline.forms import write_form
from wholeline.letters import Mail
from wholeline.nets import Fate, Run, run_line
from wholeline.steps import Room, Steps
from wholeline.ways import Way

BODY = ("body",)
RACE = ((1, 1), (1, 1))
# One way, one letter of two parcels; the second one is the last one.
SMALL = line_with(mail=Mail([[((), 4)]]), ways=[Way(0, 1, 3)], silent=0, widths=[4, 6])
FIRST, SECOND = ("parcel", 0, False, (BODY,) * 2), ("parcel", 1, True, (BODY,) * 2)


def boxed(*boxes, mail=Mail([[((), 4)]]), **settings):
    """A line like SMALL with boxes."""
    return line_with(**{
        "mail": mail, "ways": [Way(0, 1, 3, boxes)], "silent": 0, "widths": [4, 6], "turn": 6, **settings})


def events_of(line, **parts):
    race = parts.pop("race", ((1, 1),))
    width = parts.pop("width", line.widths[0])
    return run_line(line, Fate(width, race, **parts)).events


class FateTest(Case):
    def test_attributes(self):
        fate = Fate(5, RACE)
        self.same([fate.width, fate.race, fate.delays, fate.lost, fate.bends, fate.offsets, fate.keeps], [5, RACE] + [()] * 5)
        bends = ((1, ((0, 1),)), (4, ((2, 3), (0, 0))))
        fate = Fate(width=5, race=(), delays=(1, 2), lost=(0, 3), bends=bends, offsets=((), (0, 1)), keeps=(7,))
        self.same([fate.delays, fate.lost, fate.bends, fate.offsets, fate.keeps], [(1, 2), (0, 3), bends, ((), (0, 1)), (7,)])

    def test_equal(self):
        parts = {"delays": (1,), "lost": (1,), "bends": ((0, ((0, 1),)),), "offsets": ((0,),), "keeps": (1,)}
        self.equal_ones(Fate(5, RACE, **parts), Fate(5, RACE, **parts))
        self.unlike_ones(Fate(5, RACE), Fate(6, RACE))
        self.unlike_ones(Fate(5, RACE), Fate(5, (None,)))
        for word in parts:
            self.unlike_ones(Fate(5, RACE, **parts), Fate(5, RACE, **{**parts, word: ()}))
        self.unlike_others(Fate(5, RACE))
        self.not_iterated(Fate(5, RACE))

    def test_wrong_parts(self):
        for value in NO_INTEGERS + [Same()]:
            self.raises(BadFate("width"), Fate, value, None, delays=None, lost=None)
        for value in [None, 0, True, "", [], [None], {}, Prickly(), Same()]:
            self.raises(BadFate("race"), Fate, 5, value, delays=None, keeps=None)
        for word in ("delays", "lost", "keeps"):
            for value in [None, 0, True, "", "1", [], [1], {}, (None,), (True,), ("1",), (1.0,), ((),), Prickly(), (Prickly(),), Same()]:
                self.raises(BadFate(word), Fate, 5, (), **{word: value})
        for value in ((-1,), (1, 1), (2, 1), (0, 3, 2)):
            self.raises(BadFate("lost"), Fate, 5, (), lost=value)
        for value in [None, 0, (0,), ([],), ((), None), [()], "", Prickly(), ((True,),), ((Prickly(),),), ((0, "1"),), Same()]:
            self.raises(BadFate("offsets"), Fate, 5, (), offsets=value)
        one = ((0, 1),)
        for value in [None, 0, [], (0,), ((0,),), ((0, ()),), ((0, one, 0),), ([0, one],), ((0, list(one)),), ((0, ([0, 1],)),),
                      ((None, one),), ((True, one),), ((-1, one),), ((1, one), (1, one)), ((2, one), (1, one)),
                      ((0, ((0, 1), (0, 2))),), ((0, ((0, 1), (1, 2), (2, 3))),), ((0, ((0,),)),), ((0, ((0, 1, 2),)),),
                      ((0, ((None, 1),)),), ((0, ((0, None),)),), ((0, ((True, 1),)),), ((0, ((0, True),)),), Prickly(), (Prickly(),),
                      ((0, Prickly()),), ((0, (Prickly(),)),), Same()]:
            self.raises(BadFate("bends"), Fate, 5, (), bends=value)

    def test_lost_and_bent(self):
        one = ((0, 1),)
        self.raises(BadFate("bends"), Fate, 5, (), lost=(1, 2), bends=((2, one),))
        self.same(Fate(5, (), lost=(1, 3), bends=((2, one),)).lost, (1, 3))

    def test_the_first_wrong_one_is_told(self):
        words = ["delays", "lost", "bends", "offsets", "keeps"]
        for at, word in enumerate(words):
            self.raises(BadFate(word), Fate, 5, (), **{other: None for other in words[at:]})
        self.raises(BadFate("race"), Fate, 5, None, **{other: None for other in words})

    def test_any_race_and_numbers_of_no_line(self):
        self.same(Fate(10 ** 9, ("x", None, 5)).race, ("x", None, 5))
        told = Fate(-1, (), delays=(-1, 0, 99), offsets=((-1,), ()), keeps=(0,), bends=((3, ((-1, 256),)),))
        self.same([told.width, told.delays, told.keeps], [-1, (-1, 0, 99), (0,)])


class RunTest(Case):
    def test_a_plain_run(self):
        run = run_line(line=SMALL, fate=Fate(4, ((1, 1),)))
        self.same(list(run.events), [
            (2, "sent", 0, FIRST), (3, "came", 0, FIRST), (3, "taken", 0, FIRST), (3, "answered", 1, ("answer", 0, 8)),
            (4, "came", 1, ("answer", 0, 8)), (4, "closed", 1, ("answer", 0, 8)), (4, "sent", 2, SECOND), (5, "came", 2, SECOND),
            (5, "taken", 2, SECOND), (5, "told", 0, ((), 4)), (5, "answered", 3, ("answer", 1, 8)),
            (6, "came", 3, ("answer", 1, 8)), (6, "closed", 3, ("answer", 1, 8)),
        ])
        self.same([run.going, run.start, run.winner, run.is_cut], [4, 2, 0, False])
        self.assertIs(run.line, SMALL)
        self.equal_ones(run.fate, Fate(4, ((1, 1),)))

    def test_lost_goings(self):
        told = events_of(SMALL, lost=(0,))
        self.same(list(told[:3]), [(2, "sent", 0, FIRST), (2, "lost", 0, FIRST), (14, "sent", 1, FIRST)])
        told = events_of(SMALL, lost=(1,))
        self.same(list(told[3:8]), [(3, "answered", 1, ("answer", 0, 8)), (3, "lost", 1, ("answer", 0, 8)), (14, "sent", 2, FIRST),
                                    (15, "came", 2, FIRST), (15, "answered", 3, ("answer", 0, 8))])

    def test_bent_goings(self):
        told = events_of(SMALL, bends=((0, ((3, 9),)),))
        self.same(list(told[:3]), [(2, "sent", 0, FIRST), (3, "came", 0, None), (14, "sent", 1, FIRST)])
        told = events_of(SMALL, bends=((1, ((2, 9), (5, 9))),))
        self.same(list(told[3:6]), [(3, "answered", 1, ("answer", 0, 8)), (4, "came", 1, None), (14, "sent", 2, FIRST)])

    def test_wide_ones(self):
        line = SMALL.with_setting("losses", 2)
        run = run_line(line, Fate(4, ((1, 1),), delays=(3,)), going=6)
        wide = ("parcel", 0, True, (BODY,) * 4)
        self.same(list(run.events[:4]), [(2, "sent", 0, wide), (5, "wide", 0, wide), (14, "sent", 1, wide), (15, "wide", 1, wide)])
        self.same([run.is_cut, run.going, len(run.events)], [True, 6, 9999])
        # Lost ones are not told as wide; bent ones are.
        told = run_line(line, Fate(4, ((1, 1),), lost=(0,), bends=((1, ((3, 9),)),)), going=6).events
        self.same([event[:3] for event in told[:4]], [(2, "sent", 0), (2, "lost", 0), (14, "sent", 1), (15, "wide", 1)])
        # With the greater true width it comes.
        self.same(run_line(line, Fate(6, ((1, 1),)), going=6).events[1], (3, "came", 0, wide))

    def test_as_wide_as_the_true_width(self):
        line = line_with(mail=Mail([[((), 4)]]), ways=[Way(0, 1, 3)], silent=0, widths=[3, 5, 6])
        for width, going, word in ((3, 3, "came"), (5, 6, "wide"), (5, 5, "came"), (6, 6, "came"), (3, 5, "wide")):
            self.same(run_line(line, Fate(width, ((1, 1),)), going=going).events[1][1], word)

    def test_the_delays(self):
        told = events_of(SMALL, delays=(3, 2, 1, 3))
        self.same([event[0] for event in told if event[1] in ("sent", "came")], [2, 5, 7, 7, 8, 11])
        # Behind the end of the tuple they are the least.
        told = events_of(SMALL, delays=(3,))
        self.same([event[0] for event in told if event[1] in ("sent", "came")], [2, 5, 6, 6, 7, 8])

    def test_signs_and_rows(self):
        line = line_with(mail=Mail([[((), 0)], [((), 0)]]), ways=[Way(0, 1, 3)], silent=0, widths=[4], quiet=11)
        told = events_of(line, delays=(1, 1, 2, 3))
        self.same([event[:3] for event in told if event[1] in ("sent", "came")], [
            (2, "sent", 0), (3, "came", 0), (4, "came", 1), (9, "sent", 2), (11, "came", 2), (14, "sent", 3), (15, "sent", 4),
            (16, "came", 4), (17, "came", 3), (17, "came", 5)])
        self.same(told[7], (9, "sent", 2, ("sign",)))
        self.same([event for event in told if event[1] == "told"], [(3, "told", 0, ((), 0)), (16, "told", 1, ((), 0))])

    def test_one_moment_in_its_order(self):
        # A turn of 1: at each moment things come to the reader, answers to the sender, and it sends.
        line = line_with(mail=Mail([[((), 4)]]), ways=[Way(0, 1, 3)], silent=0, widths=[4], turn=1, numbers=8)
        told = events_of(line, delays=(2, 1, 3, 1, 1))
        self.same([event[:3] for event in told if event[0] == 4], [
            (4, "came", 0), (4, "taken", 0), (4, "answered", 2), (4, "came", 1), (4, "answered", 3), (4, "sent", 4)])
        self.same([event[:3] for event in told if event[0] == 5], [(5, "came", 4), (5, "answered", 5), (5, "came", 3), (5, "closed", 3),
                                                                   (5, "sent", 6)])

    def test_no_answer(self):
        line = line_with(silent=2)
        run = run_line(line, Fate(5, (None, None), lost=(0, 1, 2, 3), delays=(99,), offsets=((),) * 9, keeps=(1,) * 9))
        self.same([run.winner, run.start, run.events, run.is_cut, run.going], [None, None, (), False, 5])
        # Nothing goes out, so no letter is stuck.
        stuck = line.with_setting("widths", [1, 8])
        self.same(run_line(stuck, Fate(8, (None, None))).going, 1)

    def test_the_way_that_wins(self):
        run = run_line(LINE, Fate(5, (None, (3, 3))), going=8)
        self.same([run.winner, run.start, run.going, run.events[0][:3]], [1, 7, 8, (7, "sent", 0)])
        run = run_line(LINE, Fate(5, ((2, 2), (1, 1))))
        self.same([run.winner, run.start], [1, 3])

    def test_the_cut(self):
        # Nothing comes: 5000 sendings, each with its event.
        for lost in ((), (0,), (4999,), (0, 4999)):
            line = SMALL.with_setting("losses", 2)
            run = run_line(line, Fate(4, ((1, 1),), lost=lost), going=6)
            sent = [event for event in run.events if event[1] == "sent"]
            self.same([len(sent), run.is_cut, sent[-1][:3]], [5000, True, (2 + 4999 * 12, "sent", 4999)])
            self.same(run.events[-1][1], "lost" if 4999 in lost else "sent")

    def test_signs_count_for_the_cut(self):
        # Two rows of 360 parcels, each sent five times, and 499 signs behind each; the third row is cut.
        rows = [[((), 60)] * 6] * 3
        line = line_with(mail=Mail(rows), ways=[Way(0, 5, 5)], silent=0, widths=[3], turn=2, numbers=8, room=Room(60, Steps([1])),
                         period=1, quiet=500)
        run = run_line(line, Fate(3, ((5, 5),)))
        words = [event[3][0] for event in run.events if event[1] == "sent"]
        self.same([len(words), run.is_cut, words.count("sign")], [5000, True, 499 * 2])
        self.same(words.count("parcel"), 5000 - 998)

    def test_a_run_of_4999_and_of_5000_sendings(self):
        # Each of the 499 parcels is sent ten times, and there are 9 signs or 10.
        for quiet, signs, is_cut in ((10, 9, False), (11, 10, True)):
            mail = Mail([[((), 60)] * 6, [((), 60), ((), 60), ((), 19)]])
            line = line_with(mail=mail, ways=[Way(0, 5, 5)], silent=0, widths=[3], turn=1, numbers=8, room=Room(60, Steps([1])),
                             period=1, quiet=quiet)
            run = run_line(line, Fate(3, ((5, 5),)))
            sent = [event[3][0] for event in run.events if event[1] == "sent"]
            self.same([len(sent), sent.count("sign"), run.is_cut], [4990 + signs, signs, is_cut])
            self.same(run.events[-1][1] == "sent", is_cut)

    def test_equal(self):
        fate = Fate(5, RACE)
        run = run_line(LINE, fate)
        self.equal_ones(run, run_line(line_with(), Fate(5, RACE), going=5))
        for other in (run_line(LINE, fate, going=8), run_line(LINE, Fate(5, RACE, delays=(1,))), run_line(LINE, Fate(8, RACE)),
                      run_line(line_with(losses=2), fate), run_line(LINE, Fate(5, ((2, 1), None)))):
            self.unlike_ones(run, other)
        # Without an answer only the widths tell such runs apart.
        line, silence = line_with(silent=2), Fate(5, (None, None))
        self.equal_ones(run_line(line, silence), run_line(line, silence, going=5))
        self.unlike_ones(run_line(line, silence), run_line(line, silence, going=8))
        self.assertIsInstance(run, Run)
        self.unlike_others(run)
        self.not_iterated(run)


class BoxesTest(Case):
    def words(self, line, word="forgotten", **parts):
        return [event[:3] for event in events_of(line, **parts) if event[1] == word][:3]

    def test_as_long_as_the_keep_is_not_longer(self):
        # The beginning comes at 0; the first parcel goes out at 2, the second one at 4 or later.
        for keep, gone in ((2, False), (1, True)):
            self.same(bool(self.words(boxed((0, 0, keep, 9)))), gone)
        self.same(self.words(boxed((0, 0, 1, 9))), [(2, "forgotten", 0), (8, "forgotten", 1), (14, "forgotten", 2)])
        self.same(self.words(boxed((0, 0, 1, 9)), keeps=(2,)), [])

    def test_directly_behind_its_sending(self):
        told = events_of(boxed((0, 0, 1, 9)))
        self.same(list(told[:3]), [(2, "sent", 0, FIRST), (2, "forgotten", 0, FIRST), (8, "sent", 1, FIRST)])

    def test_offsets(self):
        line = boxed((0, 2, 2, 2), ways=[Way(0, 2, 3, [(0, 2, 2, 2)])], turn=6)
        race = ((2, 2),)
        # The first parcel, at 4, comes behind the beginning by 4 and more; seen at 2 and at 4 it is kept.
        self.same(self.words(line, race=race), [(4, "forgotten", 0), (10, "forgotten", 1), (16, "forgotten", 2)])
        self.same(self.words(line, race=race, offsets=((2, 1),)), [(5, "forgotten", 0), (10, "forgotten", 1), (16, "forgotten", 2)])
        self.assertNotEqual(self.words(line, race=race, offsets=((2,),))[:1], [(4, "forgotten", 0)])
        self.same(self.words(line, race=race, offsets=((2,),), delays=(2, 2, 2))[0][0] > 4, True)
        # Behind the end of the tuple it is near, 0.
        self.same(self.words(line, race=race, offsets=((1, 2),))[0], (6, "forgotten", 0))

    def test_not_later_than_at_the_reader(self):
        # The offset is 3, but the first parcel comes at 1 behind its sending, and is seen then.
        line = boxed((1, 3, 5, 5))
        run = ((3, 3),)
        told = self.words(line, race=run, offsets=((3, 3, 3),), delays=(1, 1, 1, 1))
        # The beginning at 3, the first parcel at 7, the next one at 9.
        self.same(told, [])
        # The beginning comes at 1 to the reader, so not later to the box.
        told = self.words(line, race=((1, 3),), offsets=((3, 3, 3),), delays=(3, 1))
        self.same(told, [(7, "forgotten", 0), (11, "forgotten", 1), (17, "forgotten", 2)])

    def test_lost_ones_do_not_come_to_boxes(self):
        line = boxed((0, 0, 5, 5))
        self.same(self.words(line), [])
        # Sent at 2, lost; sent again at 8, 8 behind the beginning.
        self.same(self.words(line, lost=(0,)), [(8, "forgotten", 1), (14, "forgotten", 2), (20, "forgotten", 3)])
        # A lost answer does not matter for boxes: 2 and 8.
        self.same(self.words(line, lost=(1,)), [(8, "forgotten", 2), (14, "forgotten", 3), (20, "forgotten", 4)])
        self.same(self.words(line.with_setting("ways", [Way(0, 1, 3, [(0, 0, 6, 6)])]), lost=(1,)), [])

    def test_wide_ones_come_to_boxes(self):
        line = boxed((0, 0, 6, 6))
        told = run_line(line, Fate(4, ((1, 1),)), going=6).events
        self.same({event[1] for event in told}, {"sent", "wide"})
        # Forgotten ones are not told as wide.
        told = run_line(boxed((0, 0, 5, 5)), Fate(4, ((1, 1),)), going=6).events
        self.same([event[:3] for event in told[:4]], [(2, "sent", 0), (3, "wide", 0), (8, "sent", 1), (8, "forgotten", 1)])

    def test_signs_keep_the_way(self):
        mail = Mail([[((), 0)], [((), 0)]])
        for period, gone in ((6, False), (7, True), (20, True)):
            line = boxed((0, 0, 8, 8), mail=mail, period=period, quiet=20)
            self.same(bool(self.words(line)), gone)
        told = self.words(boxed((0, 0, 8, 8), mail=mail, period=7, quiet=20))
        self.same(told[0], (11, "forgotten", 2))

    def test_one_of_two_boxes(self):
        # The second box forgets; it is told when the thing would come there, later than to the first one.
        line = boxed((0, 0, 9, 9), (1, 1, 1, 1))
        told = events_of(line)
        self.same([event[:3] for event in told[:4]], [(2, "sent", 0), (3, "forgotten", 0), (8, "sent", 1), (9, "forgotten", 1)])
        # Both forget: it is told once, where it comes first.
        line = boxed((1, 1, 1, 1), (0, 0, 1, 1))
        told = events_of(line)
        self.same([event[:3] for event in told[:4]], [(2, "sent", 0), (2, "forgotten", 0), (8, "sent", 1), (8, "forgotten", 1)])

    def test_what_comes_later_is_thrown_away_too(self):
        # What overtakes: the first sending comes to the box at 5 by its offset of 3, behind the second one.
        line = boxed((0, 3, 4, 4), ways=[Way(0, 3, 3, [(0, 3, 4, 4)])], turn=6)
        race = ((3, 3),)
        told = self.words(line, race=race, offsets=((3, 2),))
        self.same(told[0], (8, "forgotten", 0))
        self.same([event[0] for event in told], [8, 12, 18])

    def test_ahead_of_what_comes_at_this_moment(self):
        roll = dice(531)
        seen = 0
        for _ in range(400):
            line = random_line(roll)
            fate = random_fate(roll, line)
            try:
                events = run_line(line, fate).events
            except WholeError:
                continue
            for one, other in zip(events, events[1:]):
                if other[1] == "forgotten":
                    # At its moment nothing but other forgotten things, or its own sending, stands ahead of it.
                    if one[0] == other[0]:
                        self.assertTrue(one[1] == "forgotten" and one[2] < other[2] or one[1:3] == ("sent", other[2]))
                    seen += one[0] == other[0]
        self.assertGreater(seen, 50)

    def test_answers_always_pass(self):
        # The first parcel is answered; behind it the box forgets, and the answer comes all the same.
        line = boxed((0, 0, 3, 3), turn=6)
        told = events_of(line, delays=(1, 3))
        self.same([event[:3] for event in told[3:8]], [(3, "answered", 1), (6, "came", 1), (6, "closed", 1), (6, "sent", 2), (6, "forgotten", 2)])


class PlainTest(Case):
    def test_against_live_ends(self):
        roll = dice(532)
        words = {}
        for _ in range(2500):
            line = random_line(roll)
            fate = random_fate(roll, line, roll.choice(line.widths))
            going = roll.choice([None, *line.widths])
            try:
                run = run_line(line, fate, going=going)
            except WholeError:
                continue
            plain = PlainNet(line, fate, going, 30 if run.is_cut else 5000)
            self.assertEqual(tuple(plain.events), run.events[:len(plain.events)])
            self.same((plain.is_cut, plain.winner, plain.start), (run.is_cut, run.winner, run.start))
            self.assertIs(len(plain.events) == len(run.events), not run.is_cut)
            for event in plain.events:
                words[event[1]] = words.get(event[1], 0) + 1
        self.assertEqual(set(words), {"sent", "answered", "lost", "forgotten", "wide", "came", "taken", "closed", "told"})
        self.assertGreater(min(words.values()), 100)


class ErrorsTest(Case):
    def test_in_their_order(self):
        fate = Fate(5, RACE)
        for value in NO_INTEGERS + [Same(), Prickly()]:
            self.raises(BadPart("line"), run_line, value, None, going="x")
        for value in NO_INTEGERS + [Fate, Same(), (5, RACE)]:
            self.raises(BadPart("fate"), run_line, LINE, value, going="x")
        for value in [told for told in NO_INTEGERS if told is not None] + [4, 6, 0, Same()]:
            self.raises(BadPart("going"), run_line, LINE, Fate(0, ()), going=value)
        for width in (0, 4, 6, -5):
            self.raises(BadFate("width"), run_line, LINE, Fate(width, ()))
        for race in ((), (None,), (None, None), RACE + (None,), ((1, 1), (1, 4)), ((1, 3), None), ("x", None), ((1, 1), [1, 1]),
                     ((True, 1), (1, 1))):
            self.raises(BadFate("race"), run_line, LINE, Fate(5, race, delays=(99,)))
        self.same(run_line(LINE, fate, going=None).going, 5)

    def test_parts_that_do_not_fit_the_way(self):
        way = Way(0, 2, 3, [(1, 2, 30, 40), (2, 3, 35, 35)])
        line = line_with(ways=[way], silent=0, losses=2)
        race = ((2, 2),)
        change = ((3, 99),)
        parts = {
            "delays": [(1,), (4,), (2, 3, 2, 0), (-2,)], "lost": [(0, 1, 2), (5, 6, 999)],
            "offsets": [((0,),), ((3,),), ((), (1,)), ((2, 1), (4,)), ((), (), ()), ((1, 2, 5),)],
            "keeps": [(29,), (41,), (30, 34), (30, 36), (30, 35, 1)],
        }
        wrong = {word: values[0] for word, values in parts.items()}
        for at, (word, values) in enumerate(parts.items()):
            for value in values:
                told = {other: wrong[other] for other in list(parts)[at + 1:]}
                self.raises(BadFate(word), run_line, line, Fate(5, race, **{**told, word: value}))
        # Bends count as losses.
        self.raises(BadFate("lost"), run_line, line, Fate(5, race, lost=(7, 8), bends=((0, change),)))
        self.raises(BadFate("lost"), run_line, line, Fate(5, race, bends=((0, change), (1, change), (2, change))))
        fits = Fate(5, race, delays=(2, 3), lost=(1,), offsets=((1, 2), (2, 3)), keeps=(30, 35))
        self.assertIs(run_line(line, fits).is_cut, False)
        self.assertIs(run_line(line, Fate(5, race, offsets=((1, 2),), keeps=(40,))).is_cut, False)

    def test_stuck(self):
        line = line_with(mail=Mail([[((), 9), ((), 10)]]), widths=[1, 2, 5, 50])
        for width, letter in ((1, 0), (2, 0), (5, 1)):
            self.raises(Stuck(letter), run_line, line, Fate(5, RACE), going=width)
            # What the fate tells of the way is looked at first; whether a bend can be made, later.
            self.raises(BadFate("delays"), run_line, line, Fate(5, RACE, delays=(9,)), going=width)
            self.raises(BadFate("keeps"), run_line, line, Fate(5, RACE, keeps=(9, 9)), going=width)
            self.raises(Stuck(letter), run_line, line, Fate(5, RACE, bends=((0, ((99, 1),)),)), going=width)
        self.raises(Stuck(0), run_line, line, Fate(5, RACE))

    def test_bends_of_what_goes_out(self):
        data = write_form(FIRST)
        for place, byte in ((len(data), 0), (-1, 0), (99, 5), (0, 256), (0, -1), (3, data[3]), (0, data[0])):
            self.raises(BadFate("bends"), run_line, SMALL, Fate(4, ((1, 1),), bends=((0, ((place, byte),)),)))
            self.raises(BadFate("bends"), run_line, SMALL, Fate(4, ((1, 1),), bends=((0, ((1, 77), (place, byte))),)))
        for place in range(len(data)):
            told = run_line(SMALL, Fate(4, ((1, 1),), bends=((0, ((place, (data[place] + 1) % 256),)),)))
            self.same(told.events[1], (3, "came", 0, None))
        # The answer has 9 bytes; what does not go out is not looked at.
        self.raises(BadFate("bends"), run_line, SMALL, Fate(4, ((1, 1),), bends=((1, ((9, 0),)),)))
        self.same(run_line(SMALL, Fate(4, ((1, 1),), bends=((9, ((999, 999),)),))).is_cut, False)
        # Also where it is forgotten or wide.
        self.raises(BadFate("bends"), run_line, boxed((0, 0, 1, 1)), Fate(4, ((1, 1),), bends=((0, ((99, 0),)),)))
        self.raises(BadFate("bends"), run_line, SMALL, Fate(4, ((1, 1),), bends=((0, ((99, 0),)),)), going=6)
