import unittest

from escheat import limits


class LimitsTest(unittest.TestCase):
    def test_values(self):
        wanted = {
            "MAX_TEXT": 6000, "MAX_DEPTH": 12, "MAX_NODES": 400, "MAX_STEPS": 1200, "MAX_REGIONS": 64,
            "MAX_ARRAY": 12, "MAX_FUEL": 200, "MAX_ARGUMENTS": 3, "MAX_PARTS": 6, "MAX_CONSTRUCTORS": 8,
            "MAX_KIND": 32, "PAGE_WORDS": 8, "FIRST_ADDRESS": 64, "MAX_COEFFICIENT": 1000000000000,
        }
        found = {name: getattr(limits, name) for name in dir(limits) if name[0].isupper()}
        self.assertEqual(found, wanted)


if __name__ == "__main__":
    unittest.main()
