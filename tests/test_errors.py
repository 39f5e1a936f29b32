"""The interface, tallysets/errors.py."""

import unittest

from helper import REFUSALS
from tallysets.errors import TallyError


class Errors(unittest.TestCase):
    def test_any_refusal_is_a_value_error(self):
        self.assertTrue(issubclass(TallyError, ValueError))
        for kind in REFUSALS:
            self.assertTrue(issubclass(kind, TallyError))
            with self.assertRaises(ValueError):
                raise kind("words")

    def test_none_stands_under_another(self):
        self.assertEqual(len(set(REFUSALS)), 5)
        for one in REFUSALS:
            self.assertIsNot(one, TallyError)
            for other in REFUSALS:
                self.assertEqual(issubclass(one, other), one is other)

    def test_names(self):
        names = [kind.__name__ for kind in REFUSALS]
        self.assertEqual(names, ["NoTally", "NoFan", "NoText", "NoTree", "TooGreat"])


if __name__ == "__main__":
    unittest.main()
