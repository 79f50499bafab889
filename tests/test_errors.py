"""[2], the interface's errors: their classes, their bases and their one argument."""

import wholeline.errors as errors
from tests.help import Case, Prickly

WHOLE = """BadPart(part), BadNumber(number), BadIndex(index), BadRow(index), BadLetter(spot), BadName(name),
BadHead(index), BadWord(word), BadWords(index), BadIndexes(index), BadWriting(index), BadSteps(index),
BadPiece(index), BadBox(index), NoWay(way), BadRun(index), CannotWin(way), BadCourse(index), BadWait(index),
Unsafe(fault), BadSign(index), BadOrder(index), BadState(state), BadProbe(choice), BadLog(index),
BadPlan(reason), BadTable(reason), BadAnswers(reason), BadChange(change), Barred(word), NoBar(line),
BadPaper(reason), BadMenu(index), BadMessage(value), BadBytes(value), BadUnits(value), BadBend(index),
BadMoment(moment), Stuck(letter), BadFate(word), BadText(index), BadDeed(index), Started(moment),
BadCommand(line)"""
PAIRS = [told.strip().rstrip(")").split("(") for told in WHOLE.replace("\n", " ").split(",")]
APART = [("TooMany", "limit", OverflowError), ("NothingToUndo", "name", RuntimeError)]


class ErrorsTest(Case):
    def test_bases(self):
        self.assertEqual(errors.WholeError.__bases__, (ValueError,))
        for name, _ in PAIRS:
            self.assertEqual(getattr(errors, name).__bases__, (errors.WholeError,), name)
        for name, _, base in APART:
            self.assertEqual(getattr(errors, name).__bases__, (base,), name)

    def test_all_are_there(self):
        self.assertEqual(len(PAIRS), 44)
        told = {name for name, _ in PAIRS} | {"TooMany", "NothingToUndo", "WholeError"}
        self.assertEqual({name for name in dir(errors) if not name.startswith("_")}, told)

    def test_one_argument_by_position_or_name(self):
        for name, attribute in PAIRS + [row[:2] for row in APART]:
            kind = getattr(errors, name)
            for value in (None, True, 0, "x", [1], (), Prickly()):
                self.assertIs(getattr(kind(value), attribute), value)
                self.assertIs(getattr(kind(**{attribute: value}), attribute), value)
            with self.assertRaises(TypeError):
                kind()
            with self.assertRaises(TypeError):
                kind(1, 2)
            with self.assertRaises(kind):
                raise kind(3)
