import unittest

from leasehold.errors import Back
from leasehold.readings import gone_on

FAR = 999999999999999


class GoneOnTest(unittest.TestCase):
    def test_the_same_and_a_greater_reading_are_given_back(self):
        for latest in (-FAR, -7, 0, 7, FAR):
            for clock in (latest, latest + 1, latest + FAR):
                with self.subTest(latest=latest, clock=clock):
                    self.assertEqual(gone_on(latest, clock), clock)

    def test_a_lesser_reading_is_refused(self):
        for latest in (-FAR, -7, 0, 7, FAR):
            for clock in (latest - 1, latest - FAR):
                with self.subTest(latest=latest, clock=clock):
                    with self.assertRaises(Back):
                        gone_on(latest, clock)


if __name__ == "__main__":
    unittest.main()
