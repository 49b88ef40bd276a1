import unittest

from leasehold.errors import BadTerms
from leasehold.terms import Terms

FAR = 999999999999999
STEPS = (1, 2, 3, 7, 10, 499, 500, 999, 1000)
LENGTHS = (1, 2, 3, 6, 7, 8, 99, 100, 101, 998, 999, 1000, 1001, 999999, 1000000)


class BoundsTest(unittest.TestCase):
    def taken(self, low, high, length, keepers):
        with self.subTest(low=low, high=high, length=length, keepers=keepers):
            terms = Terms(low, high, length, keepers)
            self.assertEqual(
                (terms.low, terms.high, terms.length, terms.keepers),
                (low, high, length, keepers),
            )

    def refused(self, low, high, length, keepers):
        with self.subTest(low=low, high=high, length=length, keepers=keepers):
            with self.assertRaises(BadTerms):
                Terms(low, high, length, keepers)

    def test_low_and_high_at_their_ends(self):
        self.taken(1, 1, 10, 3)
        self.taken(1, 1000, 10, 3)
        self.taken(1000, 1000, 10, 3)
        self.taken(1, 2, 10, 3)
        self.taken(999, 1000, 10, 3)

    def test_low_and_high_alike(self):
        for step in STEPS:
            self.taken(step, step, 10, 3)

    def test_low_below_its_end(self):
        for low in (0, -1, -1000, -FAR):
            self.refused(low, 1, 10, 3)
            self.refused(low, 1000, 10, 3)

    def test_high_above_its_end(self):
        for high in (1001, 1002, 1000000, FAR):
            self.refused(1, high, 10, 3)
            self.refused(1000, high, 10, 3)

    def test_low_and_high_both_outside(self):
        for step in (0, -1, 1001, FAR, -FAR):
            self.refused(step, step, 10, 3)
        self.refused(-1, 0, 10, 3)
        self.refused(0, 1001, 10, 3)
        self.refused(1001, 1002, 10, 3)
        self.refused(-FAR, FAR, 10, 3)

    def test_high_below_its_end(self):
        for high in (0, -1, -FAR):
            self.refused(1, high, 10, 3)

    def test_low_above_its_end(self):
        for low in (1001, FAR):
            self.refused(low, 1000, 10, 3)

    def test_low_above_high(self):
        self.refused(2, 1, 10, 3)
        self.refused(1000, 999, 10, 3)
        self.refused(1000, 1, 10, 3)
        self.refused(FAR, -FAR, 10, 3)

    def test_length(self):
        for length in (1, 2, 999999, 1000000):
            self.taken(2, 3, length, 3)
        for length in (0, -1, -1000000, -FAR, 1000001, 1000002, FAR):
            self.refused(2, 3, length, 3)

    def test_keepers(self):
        for keepers in range(1, 10):
            self.taken(2, 3, 10, keepers)
        for keepers in (0, -1, -9, -FAR, 10, 11, FAR):
            self.refused(2, 3, 10, keepers)

    def test_one_bad_part_is_enough_at_every_corner(self):
        for low, high in ((1, 1), (1, 1000), (1000, 1000)):
            for length, past_length in ((1, 0), (1000000, 1000001)):
                for keepers, past_keepers in ((1, 0), (9, 10)):
                    self.taken(low, high, length, keepers)
                    self.refused(0, high, length, keepers)
                    self.refused(low, 1001, length, keepers)
                    self.refused(low, high, past_length, keepers)
                    self.refused(low, high, length, past_keepers)

    def test_all_parts_bad(self):
        self.refused(0, 0, 0, 0)
        self.refused(FAR, FAR, FAR, FAR)
        self.refused(-FAR, -FAR, -FAR, -FAR)


class AnswersTest(unittest.TestCase):
    def test_ticks_of_written_cases(self):
        cases = (
            (1, 1, 1), (1, 10, 10), (10, 10, 1), (10, 9, 1), (10, 11, 2), (10, 20, 2), (10, 21, 3),
            (3, 10, 4), (7, 1, 1), (1000, 1, 1), (1000, 1000, 1), (1000, 1001, 2),
            (1, 1000000, 1000000), (1000, 1000000, 1000), (999, 1000000, 1002),
        )
        for low, length, ticks in cases:
            with self.subTest(low=low, length=length):
                self.assertEqual(Terms(low, 1000, length, 3).ticks(), ticks)

    def test_ticks_are_enough_and_one_fewer_is_not(self):
        for low in STEPS:
            for length in LENGTHS:
                with self.subTest(low=low, length=length):
                    ticks = Terms(low, 1000, length, 3).ticks()
                    self.assertGreaterEqual(ticks * low, length)
                    self.assertLess((ticks - 1) * low, length)

    def test_ticks_heed_neither_high_nor_keepers(self):
        for high in (3, 4, 1000):
            for keepers in range(1, 10):
                with self.subTest(high=high, keepers=keepers):
                    self.assertEqual(Terms(3, high, 10, keepers).ticks(), 4)

    def test_wait_of_written_cases(self):
        cases = (
            (1, 1, 1, 1), (3, 3, 10, 12), (3, 5, 10, 20), (10, 12, 100, 120), (10, 12, 101, 132),
            (1, 1000, 1000000, 1000000000), (1000, 1000, 1, 1000), (7, 9, 6, 9),
        )
        for low, high, length, wait in cases:
            with self.subTest(low=low, high=high, length=length):
                self.assertEqual(Terms(low, high, length, 3).wait(), wait)

    def test_wait_is_as_many_times_high_as_ticks(self):
        for low in STEPS:
            for high in STEPS:
                if low > high:
                    continue
                for length in LENGTHS:
                    with self.subTest(low=low, high=high, length=length):
                        terms = Terms(low, high, length, 3)
                        self.assertEqual(terms.wait(), high * terms.ticks())

    def test_most_for_every_number_of_keepers(self):
        most = [Terms(2, 3, 10, keepers).most() for keepers in range(1, 10)]
        self.assertEqual(most, [1, 2, 2, 3, 3, 4, 4, 5, 5])

    def test_most_is_the_least_number_above_half(self):
        for keepers in range(1, 10):
            with self.subTest(keepers=keepers):
                most = Terms(2, 3, 10, keepers).most()
                self.assertGreater(2 * most, keepers)
                self.assertLessEqual(2 * (most - 1), keepers)

    def test_answers_are_whole_numbers_and_no_truths(self):
        for low, high, length, keepers in ((1, 1, 1, 1), (3, 5, 10, 4), (1000, 1000, 1000000, 9)):
            terms = Terms(low, high, length, keepers)
            for answer in (terms.ticks(), terms.wait(), terms.most()):
                with self.subTest(low=low, answer=answer):
                    self.assertIs(type(answer), int)

    def test_answers_stay_the_same_beside_other_terms(self):
        first = Terms(3, 5, 10, 4)
        before = (first.ticks(), first.wait(), first.most())
        second = Terms(10, 12, 101, 9)
        with self.assertRaises(BadTerms):
            Terms(0, 0, 0, 0)
        self.assertEqual((first.ticks(), first.wait(), first.most()), before)
        self.assertEqual((second.ticks(), second.wait(), second.most()), (11, 132, 5))
        self.assertEqual((first.low, first.high, first.length, first.keepers), (3, 5, 10, 4))

    def test_parts_may_be_handed_in_by_name(self):
        terms = Terms(low=3, high=5, length=10, keepers=4)
        self.assertEqual((terms.ticks(), terms.wait(), terms.most()), (4, 20, 3))


if __name__ == "__main__":
    unittest.main()
