"""The examples of README.md."""

import builtins
import doctest
import os
import unittest
from unittest import mock

FILE = os.path.join(os.path.dirname(os.path.dirname(os.path.abspath(__file__))), "README.md")


class Examples(unittest.TestCase):
    def test_readme(self):
        with open(FILE, encoding="utf-8") as file:
            text = file.read().replace("```\n", "\n")
        examples = doctest.DocTestParser().get_doctest(text, {}, "README.md", FILE, 0)
        found = []
        # Each example leaves its value in the builtin _, which other tests would see.
        with mock.patch.object(builtins, "_", None, create=True):
            result = doctest.DocTestRunner(verbose=False).run(examples, out=found.append)
        self.assertGreater(result.attempted, 40)
        self.assertEqual(result.failed, 0, "".join(found))


if __name__ == "__main__":
    unittest.main()
