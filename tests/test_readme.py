"""The examples in README.md."""

import doctest
import unittest
from pathlib import Path

README = Path(__file__).resolve().parent.parent / "README.md"


class Examples(unittest.TestCase):
    def test_each_example_gives_what_is_written(self):
        text = README.read_text(encoding="ascii").replace("```", "\n")
        examples = doctest.DocTestParser().get_doctest(text, {}, "README.md", str(README), 0)
        told = []
        found = doctest.DocTestRunner(verbose=False).run(examples, out=told.append)
        self.assertEqual(found.failed, 0, "".join(told))
        self.assertGreater(found.attempted, 5)


if __name__ == "__main__":
    unittest.main()
