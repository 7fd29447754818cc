import doctest
import pathlib
import unittest

README = pathlib.Path(__file__).resolve().parent.parent / "README.md"


class Readme(unittest.TestCase):
    def test_sessions(self):
        # A fence would be read as a line of output.
        text = README.read_text(encoding="utf-8").replace("```", "")
        test = doctest.DocTestParser().get_doctest(text, {}, "README.md", str(README), 0)
        runner = doctest.DocTestRunner(verbose=False)
        runner.run(test)
        self.assertGreater(runner.tries, 0)
        self.assertEqual(runner.failures, 0)
