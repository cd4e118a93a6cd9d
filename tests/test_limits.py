import unittest

from alltriangular import limits


class LimitsTest(unittest.TestCase):
    def test_values(self):
        wanted = {"MOST_SIZE": 4, "MOST_TABLES": 3, "MOST_NUMBER": 1000000,
                  "MOST_LETTERS": 40, "MOST_COLUMNS": 8, "MOST_CHANGES": 6}
        self.assertEqual({name: vars(limits)[name] for name in vars(limits) if name.startswith("MOST")}, wanted)

    def test_integers(self):
        for name in vars(limits):
            if name.startswith("MOST"):
                self.assertIs(vars(limits)[name].__class__, int)


if __name__ == "__main__":
    unittest.main()
