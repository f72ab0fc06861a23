"""The examples of README.md."""

import doctest
import os
import unittest

FILE = os.path.join(os.path.dirname(os.path.dirname(os.path.abspath(__file__))), "README.md")


class Examples(unittest.TestCase):
    def test_readme(self):
        with open(FILE, encoding="utf-8") as file:
            text = file.read().replace("```\n", "\n")
        examples = doctest.DocTestParser().get_doctest(text, {}, "README.md", FILE, 0)
        found = []
        result = doctest.DocTestRunner(verbose=False).run(examples, out=found.append)
        self.assertGreater(result.attempted, 40)
        self.assertEqual(result.failed, 0, "".join(found))


if __name__ == "__main__":
    unittest.main()
