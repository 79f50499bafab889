"""The examples of README.md."""

import doctest
from pathlib import Path

from tests.help import Case

README = Path(__file__).resolve().parent.parent / "README.md"


class ReadmeTest(Case):
    def test_examples(self):
        text = README.read_text()
        examples = doctest.DocTestParser().get_doctest(text.replace("```", "\n"), {}, "README", None, 0)
        self.assertGreater(len(examples.examples), 10)
        runner = doctest.DocTestRunner(verbose=False)
        told = []
        runner.run(examples, out=told.append)
        self.assertEqual((runner.failures, told), (0, []))
