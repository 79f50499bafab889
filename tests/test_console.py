"""[51]: consoles."""

from tests.help import NO_INTEGERS, Case, Prickly, Same
from tests.plainlines import LINE, line_with
from tests.test_sessions import SMALL
from tests.test_texts import TEXT
from wholeline.console import Console
from wholeline.errors import BadPart
from wholeline.letters import Mail
from wholeline.ways import Way

LAID = ["change turn 20", "letter 1 5 bob", "drop 0 0", "row", "cut", "start 0 5 2"]
ASKED = ["line", "show", "ready", "read", "undo", "try row", "wait 9", "come 0", "lose 0", "stop", *LAID]


class ConsoleTest(Case):
    def told(self, console, *dialogue):
        """Enter commands and compare their answers, each one written as lines joined by a bar."""
        for text, answer in dialogue:
            self.same(console.enter(text), answer.split("|"))

    def test_a_line_that_is_laid(self):
        console = Console(line=LINE)
        self.same(console.enter(text="line"), TEXT.split("\n"))
        self.told(
            console, ("show", "laid"), ("ready", "error Started"), ("read", "error Started"), ("wait 5", "error Started"),
            ("stop", "error Started"), ("undo", "error NothingToUndo"), ("change turn 20", "ok"), ("letter 1 5 bob", "ok"),
            ("drop 0 0", "ok"), ("row", "ok"), ("change begin 1 -", "ok"), ("show", "laid"))
        lines = console.enter("line")
        self.same([lines[2], lines[4], lines[-6:]],
                  ["way - 1 3", "turn 20", ["letter 5", "row", "letter 1 ann", "letter 5 bob", "row", "letter 0"]])
        self.told(console, ("cut", "ok"), ("undo", "ok"), ("undo", "ok"), ("undo", "ok"), ("undo", "ok"), ("undo", "ok"), ("undo", "ok"),
                  ("undo", "error NothingToUndo"))
        self.same(console.enter("line"), TEXT.split("\n"))

    def test_a_line_that_runs(self):
        self.told(
            Console(SMALL), ("start 0 4 2", "ok"), ("show", "at 2"), ("ready", "none"), ("read", "none"), ("wait 3", "ok"),
            ("show", "at 3|0 reader 2 parcel"), ("ready", "none"), ("wait 4", "ok"), ("ready", "0"), ("come 0", "ok"),
            ("show", "at 4|1 sender 4 answer"), ("wait 6", "ok"), ("come 1", "ok"), ("wait 8", "ok"), ("show", "at 8|2 reader 6 parcel"),
            ("come 2", "ok"), ("read", "8 4"), ("show", "at 8|3 sender 8 answer"), ("row", "error Started"), ("line", "|".join(
                Console(SMALL).enter("line"))), ("stop", "ok"), ("show", "laid"), ("undo", "ok"), ("show", "at 8|3 sender 8 answer"))

    def test_letters_that_were_read(self):
        console = Console(line_with(mail=Mail([[(("ann", "bob"), 0), ((), 0)]]), ways=[Way(0, 1, 1)], silent=0, widths=[8]))
        for text in ("start 0 8 0", "wait 1", "come 0", "wait 2", "come 1", "wait 3", "come 2", "wait 4"):
            self.same(console.enter(text), ["ok"])
        self.same(console.enter("read"), ["1 0 ann bob", "3 0"])
        self.same(console.enter("show"), ["at 4", "3 sender 3 answer"])

    def test_heads_that_cannot_be_read(self):
        # A copy of the first parcel is taken for the third one, which is not read, so the fourth one's head is not known.
        mail = Mail([[(("ann",), 0), (("bob",), 0), (("cy",), 0), (("cy",), 2)]])
        console = Console(line_with(mail=mail, ways=[Way(0, 1, 50)], silent=0, widths=[8], turn=1, places=3))
        for text in ("start 0 8 0", "wait 2", "come 0", "wait 3", "come 2", "wait 4", "come 4", "wait 5", "come 1", "come 5", "wait 6",
                     "come 7", "wait 7", "come 9"):
            self.same(console.enter(text), ["ok"])
        self.same(console.enter("read"), ["2 0 ann", "4 0 bob", "5 0 ann", "7 2 -"])

    def test_things_in_one_line(self):
        console = Console(SMALL.with_setting("turn", 1))
        self.told(console, ("start 0 4 0", "ok"), ("wait 4", "ok"), ("ready", "0 1 2"), ("come 1", "ok"), ("ready", "2"),
                  ("come 0", "error BadOrder"), ("come 7", "error BadIndex"), ("come 3", "error BadWait"), ("wait 4", "error BadMoment"),
                  ("wait 9", "error BadWait"), ("lose 0", "ok"), ("lose 2", "ok"), ("lose 3", "error BadPart"))

    def test_try(self):
        console = Console(SMALL)
        before = console.enter("line")
        self.told(
            console, ("try start 0 4 2", "at 2"), ("show", "laid"), ("try row", "laid"), ("try change turn 15", "laid"),
            ("try change turn 201", "error BadPart"), ("try letter 0 1", "laid"), ("try letter 0 61", "error BadLetter"),
            ("try drop 0 0", "error BadRow"), ("try cut", "error BadPart"), ("try wait 4", "error Started"), ("try stop", "error Started"),
            ("undo", "error NothingToUndo"), ("start 0 4 2", "ok"), ("try wait 4", "at 4|0 reader 2 parcel"), ("show", "at 2"),
            ("wait 4", "ok"), ("try come 0", "at 4|1 sender 4 answer"), ("try lose 0", "at 4"), ("try stop", "laid"),
            ("show", "at 4|0 reader 2 parcel"), ("try row", "error Started"), ("try come 1", "error BadIndex"),
            ("try wait 99", "error BadWait"), ("undo", "ok"), ("show", "at 2"), ("undo", "ok"), ("undo", "error NothingToUndo"))
        self.same(console.enter("line"), before)

    def test_commands_of_other_forms(self):
        for text in ("", " ", "x", "Show", "show ", " show", "show 1", "line 0", "ready now", "read 0", "undo 1", "undo ", "try", "try ",
                     "try undo", "try show", "try line", "try  row", "try try row", "try row ", "row 1", "wait", "wait x", "wait 05", "change",
                     "change turn", "change quiet 5", "letter 0", "drop 0", "start 0 4", "come", "lose x", "stop now", "row\nrow", "wait 5\n",
                     "error", "ok", "cut\n"):
            for console in (Console(SMALL), self.running()):
                before = console.enter("show")
                self.same(console.enter(text), ["error BadCommand"])
                self.same(console.enter(f"try {text}"), ["error BadCommand"])
                self.same(console.enter("show"), before)

    def test_what_is_no_text(self):
        for console in (Console(SMALL), self.running()):
            before = console.enter("show")
            for value in (True, False, None, 0, 1, b"row", (), [], ["row"], ("row",), {}, object(), Prickly(), Same()):
                self.same(console.enter(value), ["error BadCommand"])
            self.same(console.enter("show"), before)

    def running(self):
        console = Console(SMALL)
        console.enter("start 0 4 2")
        console.enter("wait 5")
        return console

    def test_refused_ones_change_nothing(self):
        for make in (lambda: Console(SMALL), self.running):
            for text in ASKED:
                console, other = make(), make()
                answer = console.enter(text)
                if answer[0].startswith("error") or text in ("line", "show", "ready", "read", "try row"):
                    for question in ("line", "show", "ready", "read"):
                        self.same(console.enter(question), other.enter(question))
                    self.same(console.enter("undo"), other.enter("undo"))

    def test_each_error_by_its_name(self):
        console = Console(LINE)
        self.told(
            console, ("change begin 5 0", "error BadChange"), ("change begin 0 1001", "error BadPart"), ("change bound 0", "error BadSteps"),
            ("change room 0", "error BadPart"), ("change head 9", "error BadPart"), ("letter 5 1", "error BadIndex"),
            ("letter 0 1 a b c d e", "error BadLetter"), ("drop 5 0", "error BadIndex"), ("drop 0 5", "error BadIndex"),
            ("drop 1 0", "error BadRow"), ("start 5 5 0", "error BadPart"), ("start 0 4 0", "error BadPart"),
            ("start 0 5 10001", "error BadMoment"), ("row", "ok"), ("row", "error TooMany"), ("cut", "ok"), ("cut", "ok"), ("cut", "error BadPart"),
            ("letter 0 60 a b c d", "ok"), ("start 0 5 0", "error Stuck"))

    def test_consoles_have_nothing_in_common(self):
        one, other = Console(LINE), Console(LINE)
        one.enter("change turn 99")
        told = one.enter("line")
        told.clear()
        self.same([other.enter("line"), len(one.enter("line"))], [TEXT.split("\n"), 20])
        for value in NO_INTEGERS + [TEXT, Same()]:
            self.raises(BadPart("line"), Console, value)
