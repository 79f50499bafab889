"""[49]: texts of lines and of deeds."""

from tests.help import NO_INTEGERS, Case, Same, dice
from tests.plainlines import LINE, SETTINGS, hasty_line, line_with, random_line
from wholeline.errors import BadBox, BadLetter, BadPart, BadRow, BadSteps, BadText, TooMany
from wholeline.letters import Mail
from wholeline.steps import Room, Steps
from wholeline.texts import read_deeds, read_line, write_line
from wholeline.ways import Way

TEXT = """way 0 1 2
box 0 1 40 60
way 1 1 3
widths 5 8
turn 12
numbers 2
room 10
bounds 4 8
head 2
places 1
cost 3
period 5
quiet 20
silent 1
losses 1
row
letter 3 ann bob
letter 5
row
letter 1 ann"""
LINES = TEXT.split("\n")
# The words, and the words that may stand behind each.
AFTER = {
    "way": ["way", "box", "widths"], "box": ["way", "box", "widths"], "widths": ["turn"], "turn": ["numbers"],
    "numbers": ["room"], "room": ["bounds"], "bounds": ["head"], "head": ["places"], "places": ["cost"], "cost": ["period"],
    "period": ["quiet"], "quiet": ["silent"], "silent": ["losses"], "losses": ["row"], "row": ["row", "letter"],
    "letter": ["row", "letter"],
}
ONE_OF_EACH = {line.split(" ")[0]: line for line in LINES}


def with_lines(at, *lines, many=1):
    """The text with other lines in the place of some."""
    return "\n".join(LINES[:at] + list(lines) + LINES[at + many:])


class WriteTest(Case):
    def test_the_line(self):
        self.same(write_line(line=LINE), TEXT)
        self.equal_ones(read_line(text=TEXT), LINE)

    def test_ways(self):
        line = line_with(ways=[Way(None, 1, 50), Way(1000, 2, 2, [(0, 2, 1, 10000), (2, 2, 3, 4)]), Way(0, 1, 1)])
        told = write_line(line).split("\n")
        self.same(told[:5], ["way - 1 50", "way 1000 2 2", "box 0 2 1 10000", "box 2 2 3 4", "way 0 1 1"])
        self.equal_ones(read_line("\n".join(told)), line)

    def test_greatest_settings(self):
        line = line_with(widths=list(range(93, 101)), turn=200, numbers=8, room=Room(60, Steps([1, 2, 59, 60])), head=8, places=4,
                         cost=9, period=200, quiet=500, silent=3, losses=3, mail=Mail([[(("abcdefgh",) * 4, 60)] * 6] * 3))
        told = write_line(line)
        self.assertIn("\nwidths 93 94 95 96 97 98 99 100\nturn 200\n", told)
        self.assertIn("\nbounds 1 2 59 60\n", told)
        self.same(told.split("\n")[-1], "letter 60" + " abcdefgh" * 4)
        self.equal_ones(read_line(told), line)

    def test_drawn_lines(self):
        roll = dice(561)
        for many in range(300):
            line = hasty_line(roll) if many % 4 == 0 else random_line(roll)
            told = write_line(line)
            self.equal_ones(read_line(told), line)
            self.same(write_line(read_line(told)), told)

    def test_no_line(self):
        for value in NO_INTEGERS + [TEXT, Same()]:
            self.raises(BadPart("line"), write_line, value)


class ReadTest(Case):
    def test_each_line_at_each_place(self):
        for at in range(len(LINES)):
            for word, line in ONE_OF_EACH.items():
                ahead = LINES[at - 1].split(" ")[0] if at else None
                fits = word in AFTER[ahead] if at else word == "way"
                if not fits:
                    self.raises(BadText(at), read_line, with_lines(at, line))
                    # What comes behind does not matter.
                    self.raises(BadText(at), read_line, with_lines(at, line, "nonsense"))
                    self.raises(BadText(at), read_line, with_lines(at, line, many=0))

    def test_each_line_left_out(self):
        for at in range(len(LINES)):
            words = [line.split(" ")[0] for line in LINES[:at] + LINES[at + 1:]]
            wrong = [
                place for place, word in enumerate(words)
                if (word not in AFTER[words[place - 1]] if place else word != "way")
            ]
            if wrong:
                self.raises(BadText(wrong[0]), read_line, with_lines(at))

    def test_a_text_that_ends_ahead_of_its_first_row(self):
        for many in range(1, 16):
            self.raises(BadText(many), read_line, "\n".join(LINES[:many]))
        self.raises(BadText(0), read_line, "")
        for value in (None, 0, TEXT.encode(), TEXT.split("\n")):
            self.raises(BadText(None), read_line, value)
            self.raises(BadText(None), read_deeds, value)
        # A row without letters is a row.
        self.raises(BadRow(0), read_line, "\n".join(LINES[:16]))

    def test_lines_of_other_forms(self):
        for at, line in (
            (0, "way 0 1"), (0, "way 0 1 2 3"), (0, "way"), (0, "way - - 2"), (0, "way 0 1 -"), (0, "way a 1 2"), (0, "Way 0 1 2"),
            (0, "way  0 1 2"), (0, " way 0 1 2"), (0, "way 0 1 2 "), (0, "way 00 1 2"), (0, "way 0 01 2"), (0, "way +1 1 2"),
            (0, "way -1 1 2"), (0, "way 1000000 1 2"), (0, "way 0 1 2000000"), (0, "way -- 1 2"), (0, "way 1.0 1 2"), (0, "way 1_0 1 2"),
            (1, "box 0 1 40"), (1, "box 0 1 40 60 5"), (1, "box - 1 40 60"), (1, "box"), (1, "box 0 1 40 a"),
            (3, "widths"), (3, "widths 5  8"), (3, "widths 5 08"), (3, "widths 5 a"), (3, "widths -"), (3, "widths "),
            (4, "turn"), (4, "turn 12 13"), (4, "turn 012"), (4, "turn -"), (4, "turn 1234567"), (4, "turn twelve"), (4, "turn 12\t"),
            (7, "bounds"), (7, "bounds 4 8 a"), (8, "head two"), (14, "losses"), (15, "row 1"), (15, "row "), (15, "rows"), (15, ""),
            (16, "letter"), (16, "letter ann"), (16, "letter 3 ann Bob"), (16, "letter 3 abcdefghi"), (16, "letter 3 4"),
            (16, "letter - ann"), (16, "letter 3  ann"), (16, "letter 03 ann"), (16, "letter 3 ann-"), (19, "letter 1 ann "), (19, ""),
        ):
            self.raises(BadText(at), read_line, with_lines(at, line))

    def test_a_line_feed_at_the_end(self):
        self.raises(BadText(20), read_line, TEXT + "\n")
        self.raises(BadText(0), read_line, "\n" + TEXT)
        self.raises(BadText(0), read_line, "\n")
        self.raises(BadText(3), read_line, with_lines(3, "", many=0))

    def test_figures(self):
        self.same(read_line(with_lines(0, "way 999 1 2")).ways[0].begin, 999)
        for begin in ("1001", "999999"):
            self.raises(BadPart("begin"), read_line, with_lines(0, f"way {begin} 1 2"))
        self.raises(BadText(0), read_line, with_lines(0, "way 1000000 1 2"))
        self.same(read_line(with_lines(9, "places 0")).places, 0)

    def test_errors_of_the_parts_in_their_order(self):
        wrong = [
            # The line of the text, what stands there, and the error.
            (0, "way 1001 1 2", BadPart("begin")), (2, "way 1 4 3", BadPart("delays")), (7, "bounds 8 4", BadSteps(1)),
            (6, "room 61", BadPart("size")), (17, "letter 61", BadLetter((0, 1))), (3, "widths 8 5", BadPart("widths")),
            (4, "turn 3", BadPart("turn")),
        ]
        for at in range(len(wrong)):
            lines = list(LINES)
            for place, line, _ in wrong[at:]:
                lines[place] = line
            self.raises(wrong[at][2], read_line, "\n".join(lines))
        # A line of no form comes ahead of all of them.
        self.raises(BadText(19), read_line, with_lines(0, "way 1001 1 2", *LINES[1:19], "letter", many=20))

    def test_other_errors_of_the_parts(self):
        self.raises(BadBox(0), read_line, with_lines(1, "box 2 2 40 60"))
        self.raises(BadBox(1), read_line, with_lines(1, "box 0 1 40 60", "box 0 1 60 40"))
        self.raises(BadPart("boxes"), read_line, with_lines(1, *["box 0 1 40 60"] * 4))
        self.raises(BadPart("ways"), read_line, with_lines(2, *["way 1 1 3"] * 4))
        self.raises(BadSteps(None), read_line, with_lines(7, "bounds 1 2 3 4 5"))
        self.raises(BadSteps(0), read_line, with_lines(7, "bounds 0"))
        self.raises(BadPart("size"), read_line, with_lines(6, "room 0"))
        self.raises(BadRow(0), read_line, with_lines(16, many=2))
        self.raises(BadRow(2), read_line, TEXT + "\nrow")
        self.raises(BadLetter((1, 0)), read_line, with_lines(19, "letter 1 a b c d e"))
        self.raises(TooMany(6), read_line, with_lines(16, *["letter 1"] * 7))
        self.raises(TooMany(3), read_line, TEXT + "\nrow\nletter 1\nrow\nletter 1")
        self.raises(BadPart("widths"), read_line, with_lines(3, "widths 1 2 3 4 5 6 7 8 9"))
        for at, word in enumerate(("turn", "numbers"), start=4):
            self.raises(BadPart(word), read_line, with_lines(at, f"{word} 999"))
        for at, word in ((8, "head"), (9, "places"), (10, "cost"), (11, "period"), (12, "quiet"), (13, "silent"), (14, "losses")):
            self.raises(BadPart(word), read_line, with_lines(at, f"{word} 999"))


class DeedsTest(Case):
    def test_each_deed(self):
        deeds = {
            "change turn 20": ("change", ("turn", 20)), "change numbers 0": ("change", ("numbers", 0)),
            "change room 61": ("change", ("room", 61)), "change bound 4": ("change", ("bound", 4)),
            "change period 5": ("change", ("period", 5)), "change head 999999": ("change", ("head", 999999)),
            "change begin 0 -": ("change", ("begin", 0, None)), "change begin 7 15": ("change", ("begin", 7, 15)),
            "letter 0 5 ann bob": ("letter", 0, (("ann", "bob"), 5)), "letter 9 61": ("letter", 9, ((), 61)),
            "letter 0 0 a b c d e": ("letter", 0, (("a", "b", "c", "d", "e"), 0)), "drop 0 1": ("drop", 0, 1), "row": ("row",),
            "cut": ("cut",), "start 0 5 10000": ("start", 0, 5, 10000), "wait 200001": ("wait", 200001), "come 3": ("come", 3),
            "lose 0": ("lose", 0), "stop": ("stop",),
        }
        for text, deed in deeds.items():
            self.same(read_deeds(text=text), [deed])
        self.same(read_deeds("\n".join(deeds)), list(deeds.values()))
        self.same(read_deeds(""), [])

    def test_no_deeds(self):
        for text in (
            "x", "Row", "row 1", "row ", " row", "cut 0", "stop 1", "stop ", "drop 0", "drop 0 1 2", "drop a 1", "drop 0 -", "drop 00 1",
            "start 0 5", "start 0 5 2 1", "start - 5 2", "wait", "wait -", "wait 05", "wait 1234567", "wait 5 6", "come", "come x",
            "come 1 2", "lose", "lose -1", "letter", "letter 0", "letter 0 -", "letter a 5", "letter 0 5 A", "letter 0 5 ann  bob",
            "letter 0 5 abcdefghi", "letter 0 5 6", "change", "change turn", "change turn -", "change turn 1 2", "change quiet 5",
            "change size 5", "change begin 0", "change begin - 0", "change begin 0 - 1", "change begin 0 x", "change begin 00 -",
            "change  turn 5", "change bound -", "change losses 1", "undo", "line", "try row", "wait  5", "change turn x",
        ):
            self.raises(BadText(0), read_deeds, text)
            self.raises(BadText(2), read_deeds, "row\nstop\n" + text + "\nnonsense")

    def test_empty_lines(self):
        self.raises(BadText(1), read_deeds, "row\n")
        self.raises(BadText(0), read_deeds, "\nrow")
        self.raises(BadText(0), read_deeds, "\n")
        self.raises(BadText(1), read_deeds, "row\n\nrow")

    def test_new_lists(self):
        read_deeds("row").clear()
        self.same(read_deeds("row"), [("row",)])
        self.assertEqual(len(SETTINGS), 13)
