import unittest

from leasehold.errors import Back, BadTerms, NoKeeper, NotAsked
from leasehold.keepers import Keeper
from leasehold.terms import Terms

FAR = 999999999999999
STARTS = (-FAR, -1000, -21, -20, -19, -1, 0, 1, 19, 20, 21, 1000, FAR)
NAMES = (-FAR, -1, 0, 1, 7, FAR)
ANN, BEN = 1, 2
NUMBER = (5, 5)
LESSER = ((5, 4), (5, 0), (5, -1), (5, -FAR), (4, 5), (4, 6), (4, FAR), (0, 0), (-5, 5), (-FAR, FAR))
GREATER = ((5, 6), (5, FAR), (6, 5), (6, 4), (6, 0), (6, -FAR), (FAR, -FAR))

# Four ticks of five: a wait of 20.
TERMS = (3, 5, 10, 4)
WAIT = 20


def terms():
    return Terms(*TERMS)


def open_keeper(clock=0):
    """A keeper that is no longer new at this reading, and lets to nobody."""
    return Keeper(terms(), clock - WAIT)


def letting_keeper(name=ANN, number=NUMBER, clock=0):
    """A keeper that lets since this reading."""
    keeper = open_keeper(clock)
    if keeper.asked(clock, name, number) is not True:
        raise AssertionError("it should let")
    return keeper


class NewTest(unittest.TestCase):
    def test_it_lets_to_nobody_before_its_clock_has_gone_on_by_the_wait(self):
        for start in STARTS:
            for clock in (start, start + 1, start + WAIT - 1):
                with self.subTest(start=start, clock=clock):
                    keeper = Keeper(terms(), start)
                    self.assertIs(keeper.asked(clock, ANN, NUMBER), False)
                    self.assertIsNone(keeper.let_to(clock))

    def test_it_lets_when_its_clock_has_gone_on_by_the_wait(self):
        for start in STARTS:
            for clock in (start + WAIT, start + WAIT + 1, start + 3 * WAIT):
                with self.subTest(start=start, clock=clock):
                    keeper = Keeper(terms(), start)
                    self.assertIsNone(keeper.let_to(clock))
                    self.assertIs(keeper.asked(clock, ANN, NUMBER), True)
                    self.assertEqual(keeper.let_to(clock), ANN)

    def test_one_that_was_refused_while_it_was_new_has_nothing(self):
        keeper = Keeper(terms(), 0)
        for clock in (0, 1, WAIT - 1):
            self.assertIs(keeper.asked(clock, ANN, NUMBER), False)
        self.assertIsNone(keeper.let_to(WAIT - 1))
        self.assertIsNone(keeper.let_to(WAIT))
        self.assertIs(keeper.asked(WAIT, BEN, (0, 0)), True)
        self.assertEqual(keeper.let_to(WAIT), BEN)

    def test_to_be_asked_while_it_is_new_does_not_put_off_the_wait(self):
        keeper = Keeper(terms(), 0)
        self.assertIs(keeper.asked(WAIT - 1, ANN, NUMBER), False)
        self.assertIs(keeper.asked(WAIT, ANN, NUMBER), True)

    def test_to_be_freed_while_it_is_new_changes_nothing(self):
        for name in NAMES:
            for number in (NUMBER, (0, 0), (FAR, FAR), (-FAR, -FAR)):
                with self.subTest(name=name, number=number):
                    keeper = Keeper(terms(), 0)
                    self.assertIsNone(keeper.freed(0, name, number))
                    self.assertIsNone(keeper.freed(WAIT - 1, name, number))
                    self.assertIsNone(keeper.let_to(WAIT - 1))
                    self.assertIs(keeper.asked(WAIT - 1, name, number), False)
                    self.assertIs(keeper.asked(WAIT, name, number), True)

    def test_no_name_counts_as_nobody_while_it_is_new(self):
        for name in NAMES:
            for number in ((0, 0), (-1, -1), (FAR, FAR)):
                with self.subTest(name=name, number=number):
                    keeper = Keeper(terms(), 0)
                    self.assertIs(keeper.asked(WAIT - 1, name, number), False)

    def test_the_wait_is_that_of_its_terms(self):
        for parts in ((1, 1, 1, 1), (3, 3, 10, 1), (7, 9, 6, 9), (1, 1000, 1000000, 5), (1000, 1000, 1000000, 2)):
            wait = Terms(*parts).wait()
            with self.subTest(parts=parts):
                keeper = Keeper(Terms(*parts), 4)
                self.assertIs(keeper.asked(4 + wait - 1, ANN, NUMBER), False)
                self.assertIs(keeper.asked(4 + wait, ANN, NUMBER), True)
                self.assertIs(keeper.asked(4 + 2 * wait - 1, BEN, NUMBER), False)
                self.assertIs(keeper.asked(4 + 2 * wait, BEN, NUMBER), True)


class AskedTest(unittest.TestCase):
    def test_by_another_name_before_the_wait_is_over(self):
        for number in LESSER + (NUMBER,) + GREATER:
            for clock in (0, 1, WAIT - 1):
                with self.subTest(number=number, clock=clock):
                    keeper = letting_keeper()
                    self.assertIs(keeper.asked(clock, BEN, number), False)
                    self.assertEqual(keeper.let_to(clock), ANN)

    def test_by_another_name_when_the_wait_is_over(self):
        for number in LESSER + (NUMBER,) + GREATER:
            for clock in (WAIT, WAIT + 1, FAR):
                with self.subTest(number=number, clock=clock):
                    keeper = letting_keeper()
                    self.assertIs(keeper.asked(clock, BEN, number), True)
                    self.assertEqual(keeper.let_to(clock), BEN)
                    self.assertIs(keeper.asked(clock + WAIT - 1, ANN, NUMBER), False)
                    self.assertIs(keeper.asked(clock + WAIT, ANN, NUMBER), True)

    def test_another_name_that_is_refused_does_not_put_off_the_end(self):
        keeper = letting_keeper()
        self.assertIs(keeper.asked(WAIT - 1, BEN, (9, 9)), False)
        self.assertIs(keeper.asked(WAIT, BEN, (9, 9)), True)

    def test_another_name_that_is_refused_does_not_change_the_number(self):
        keeper = letting_keeper()
        self.assertIs(keeper.asked(1, BEN, (9, 9)), False)
        self.assertIs(keeper.asked(2, ANN, (5, 6)), True)

    def test_by_a_lesser_number_before_the_wait_is_over(self):
        for number in LESSER:
            for clock in (0, 1, WAIT - 1):
                with self.subTest(number=number, clock=clock):
                    keeper = letting_keeper()
                    self.assertIs(keeper.asked(clock, ANN, number), False)
                    self.assertEqual(keeper.let_to(clock), ANN)
                    self.assertIs(keeper.asked(clock, ANN, NUMBER), True)
                    self.assertIs(keeper.asked(WAIT, BEN, NUMBER), True)

    def test_by_a_lesser_number_when_the_wait_is_over(self):
        for number in LESSER:
            for clock in (WAIT, WAIT + 1):
                with self.subTest(number=number, clock=clock):
                    keeper = letting_keeper()
                    self.assertIs(keeper.asked(clock, ANN, number), True)
                    self.assertEqual(keeper.let_to(clock), ANN)
                    self.assertIs(keeper.asked(clock + WAIT - 1, BEN, NUMBER), False)
                    self.assertIsNone(keeper.freed(clock + WAIT - 1, ANN, number))
                    self.assertIs(keeper.asked(clock + WAIT - 1, BEN, NUMBER), True)

    def test_by_the_same_number_before_the_wait_is_over(self):
        for clock in (0, 1, WAIT - 1):
            with self.subTest(clock=clock):
                keeper = letting_keeper()
                self.assertIs(keeper.asked(clock, ANN, NUMBER), True)
                self.assertEqual(keeper.let_to(clock), ANN)
                # The wait goes on from the earlier reading.
                self.assertIs(keeper.asked(WAIT - 1, BEN, NUMBER), False)
                self.assertEqual(keeper.let_to(WAIT - 1), ANN)
                self.assertIsNone(keeper.let_to(WAIT))
                self.assertIs(keeper.asked(WAIT, BEN, NUMBER), True)

    def test_by_the_same_number_when_the_wait_is_over(self):
        for clock in (WAIT, WAIT + 1):
            with self.subTest(clock=clock):
                keeper = letting_keeper()
                self.assertIs(keeper.asked(clock, ANN, NUMBER), True)
                self.assertEqual(keeper.let_to(clock), ANN)
                self.assertIs(keeper.asked(clock + WAIT - 1, BEN, NUMBER), False)
                self.assertIs(keeper.asked(clock + WAIT, BEN, NUMBER), True)

    def test_by_a_greater_number_the_wait_begins_anew(self):
        for number in GREATER:
            for clock in (0, 1, WAIT - 1, WAIT, WAIT + 1):
                with self.subTest(number=number, clock=clock):
                    keeper = letting_keeper()
                    self.assertIs(keeper.asked(clock, ANN, number), True)
                    self.assertEqual(keeper.let_to(clock), ANN)
                    self.assertIs(keeper.asked(clock, ANN, NUMBER), False)
                    self.assertIs(keeper.asked(clock + WAIT - 1, BEN, number), False)
                    self.assertEqual(keeper.let_to(clock + WAIT - 1), ANN)
                    self.assertIs(keeper.asked(clock + WAIT, BEN, number), True)

    def test_by_any_number_when_it_does_not_let(self):
        for number in LESSER + (NUMBER,) + GREATER:
            for name in (ANN, BEN):
                with self.subTest(number=number, name=name):
                    keeper = letting_keeper()
                    keeper.freed(3, ANN, NUMBER)
                    self.assertIs(keeper.asked(3, name, number), True)
                    self.assertEqual(keeper.let_to(3), name)
                    self.assertIs(keeper.asked(3 + WAIT - 1, 3, number), False)
                    self.assertIs(keeper.asked(3 + WAIT, 3, number), True)

    def test_names_that_are_zero_or_negative(self):
        for name in NAMES:
            for other in NAMES:
                with self.subTest(name=name, other=other):
                    keeper = letting_keeper(name, (0, 0))
                    self.assertEqual(keeper.let_to(1), name)
                    self.assertIs(keeper.asked(1, other, (0, 0)), name == other)
                    self.assertEqual(keeper.let_to(1), name)
                    self.assertIs(keeper.asked(WAIT, other, (0, 0)), True)
                    self.assertEqual(keeper.let_to(WAIT), other)

    def test_numbers_that_are_zero_or_negative(self):
        rising = ((-FAR, FAR), (-2, 0), (-1, -1), (-1, 0), (-1, 1), (0, -FAR), (0, -1), (0, 0), (0, 1), (1, -1))
        for place, number in enumerate(rising):
            for other_place, other in enumerate(rising):
                with self.subTest(number=number, other=other):
                    keeper = letting_keeper(0, number)
                    self.assertIs(keeper.asked(1, 0, other), other_place >= place)
                    renewed = other_place > place
                    self.assertIs(keeper.asked(WAIT, -1, (0, 0)), not renewed)

    def test_readings_below_zero(self):
        for clock in STARTS:
            with self.subTest(clock=clock):
                keeper = letting_keeper(ANN, NUMBER, clock)
                self.assertEqual(keeper.let_to(clock + WAIT - 1), ANN)
                self.assertIs(keeper.asked(clock + WAIT - 1, BEN, NUMBER), False)
                self.assertIs(keeper.asked(clock + WAIT, BEN, NUMBER), True)


class FreedTest(unittest.TestCase):
    def test_by_the_name_with_the_number_or_a_greater_one(self):
        for number in (NUMBER,) + GREATER:
            for clock in (0, 1, WAIT - 1):
                with self.subTest(number=number, clock=clock):
                    keeper = letting_keeper()
                    self.assertIsNone(keeper.freed(clock, ANN, number))
                    self.assertIsNone(keeper.let_to(clock))
                    self.assertIs(keeper.asked(clock, BEN, (0, 0)), True)
                    self.assertEqual(keeper.let_to(clock), BEN)

    def test_by_the_name_with_a_lesser_number(self):
        for number in LESSER:
            with self.subTest(number=number):
                keeper = letting_keeper()
                self.assertIsNone(keeper.freed(1, ANN, number))
                self.assertEqual(keeper.let_to(1), ANN)
                self.assertIs(keeper.asked(WAIT - 1, BEN, NUMBER), False)
                self.assertIs(keeper.asked(WAIT, BEN, NUMBER), True)

    def test_by_another_name(self):
        for number in LESSER + (NUMBER,) + GREATER:
            with self.subTest(number=number):
                keeper = letting_keeper()
                self.assertIsNone(keeper.freed(1, BEN, number))
                self.assertEqual(keeper.let_to(1), ANN)
                self.assertIs(keeper.asked(WAIT - 1, BEN, NUMBER), False)
                self.assertIs(keeper.asked(WAIT, BEN, NUMBER), True)

    def test_the_number_is_that_by_which_it_last_let(self):
        keeper = letting_keeper()
        keeper.asked(1, ANN, (5, 8))
        keeper.freed(2, ANN, (5, 7))
        self.assertEqual(keeper.let_to(2), ANN)
        keeper.freed(3, ANN, (5, 8))
        self.assertIsNone(keeper.let_to(3))

    def test_a_number_that_was_refused_is_not_the_last(self):
        keeper = letting_keeper()
        self.assertIs(keeper.asked(1, ANN, (5, 4)), False)
        keeper.freed(2, ANN, (5, 4))
        self.assertEqual(keeper.let_to(2), ANN)

    def test_when_it_lets_to_nobody(self):
        for name in NAMES:
            for number in (NUMBER, (0, 0), (-1, -1), (FAR, FAR)):
                with self.subTest(name=name, number=number):
                    keeper = open_keeper()
                    self.assertIsNone(keeper.freed(0, name, number))
                    self.assertIsNone(keeper.let_to(0))
                    self.assertIs(keeper.asked(0, name, number), True)

    def test_twice(self):
        keeper = letting_keeper()
        for clock in (1, 1, 2):
            self.assertIsNone(keeper.freed(clock, ANN, NUMBER))
            self.assertIsNone(keeper.let_to(clock))
        self.assertIs(keeper.asked(2, BEN, (0, 0)), True)
        self.assertIsNone(keeper.freed(3, ANN, NUMBER))
        self.assertEqual(keeper.let_to(3), BEN)

    def test_when_the_wait_is_over(self):
        for clock in (WAIT, WAIT + 1, 3 * WAIT):
            for name in (ANN, BEN):
                with self.subTest(clock=clock, name=name):
                    keeper = letting_keeper()
                    self.assertIsNone(keeper.freed(clock, name, NUMBER))
                    self.assertIsNone(keeper.let_to(clock))
                    self.assertIs(keeper.asked(clock, BEN, (0, 0)), True)

    def test_names_and_numbers_that_are_zero_or_negative(self):
        for name in NAMES:
            for other in NAMES:
                with self.subTest(name=name, other=other):
                    keeper = letting_keeper(name, (0, 0))
                    keeper.freed(1, name, (0, -1))
                    keeper.freed(1, name, (-1, 9))
                    self.assertEqual(keeper.let_to(1), name)
                    keeper.freed(1, other, (0, 0))
                    self.assertEqual(keeper.let_to(1), None if name == other else name)


class LetToTest(unittest.TestCase):
    def test_the_name_until_the_wait_is_over(self):
        keeper = letting_keeper()
        for clock in (0, 0, 1, WAIT - 1):
            self.assertEqual(keeper.let_to(clock), ANN)
        for clock in (WAIT, WAIT + 1, FAR):
            self.assertIsNone(keeper.let_to(clock))

    def test_nobody_when_it_never_let(self):
        keeper = open_keeper()
        for clock in (0, 1, WAIT, FAR):
            self.assertIsNone(keeper.let_to(clock))


def tell(keeper, method, clock):
    if method == "let_to":
        return keeper.let_to(clock)
    name, number = (ANN, (9, 9)) if method != "asked other" else (BEN, (9, 9))
    if method == "freed":
        return keeper.freed(clock, name, number)
    return keeper.asked(clock, name, number)


METHODS = ("asked", "asked other", "freed", "let_to")


class BackTest(unittest.TestCase):
    def test_one_less_than_the_reading_at_which_it_was_new(self):
        for start in STARTS:
            for method in METHODS:
                with self.subTest(start=start, method=method):
                    keeper = Keeper(terms(), start)
                    with self.assertRaises(Back):
                        tell(keeper, method, start - 1)
                    tell(keeper, method, start)

    def test_one_less_than_a_reading_that_each_method_was_shown(self):
        for start in STARTS:
            for first in METHODS:
                for second in METHODS:
                    with self.subTest(start=start, first=first, second=second):
                        keeper = letting_keeper(ANN, NUMBER, start)
                        tell(keeper, first, start + 4)
                        with self.assertRaises(Back):
                            tell(keeper, second, start + 3)
                        tell(keeper, second, start + 4)

    def test_a_reading_far_back(self):
        for method in METHODS:
            with self.subTest(method=method):
                keeper = letting_keeper()
                with self.assertRaises(Back):
                    tell(keeper, method, -FAR)

    def test_an_ask_that_is_answered_with_no_has_shown_its_reading(self):
        keeper = letting_keeper()
        self.assertIs(keeper.asked(7, BEN, NUMBER), False)
        with self.assertRaises(Back):
            keeper.let_to(6)
        new = Keeper(terms(), 0)
        self.assertIs(new.asked(7, BEN, NUMBER), False)
        with self.assertRaises(Back):
            new.let_to(6)

    def test_an_ask_that_changes_nothing_has_shown_its_reading(self):
        keeper = letting_keeper()
        self.assertIs(keeper.asked(7, ANN, NUMBER), True)
        with self.assertRaises(Back):
            keeper.let_to(6)

    def test_a_free_that_changes_nothing_has_shown_its_reading(self):
        keeper = letting_keeper()
        keeper.freed(7, BEN, NUMBER)
        with self.assertRaises(Back):
            keeper.let_to(6)

    def test_a_refusal_does_not_change_what_is_let(self):
        for method in METHODS:
            with self.subTest(method=method):
                keeper = letting_keeper()
                keeper.let_to(5)
                with self.assertRaises(Back):
                    tell(keeper, method, 4)
                self.assertEqual(keeper.let_to(5), ANN)
                # Neither by a greater number, nor from another reading.
                keeper.freed(5, ANN, (5, 4))
                self.assertEqual(keeper.let_to(WAIT - 1), ANN)
                self.assertIs(keeper.asked(WAIT - 1, ANN, NUMBER), True)
                self.assertIsNone(keeper.let_to(WAIT))

    def test_a_refusal_does_not_let_what_is_free(self):
        for method in METHODS:
            with self.subTest(method=method):
                keeper = open_keeper(5)
                keeper.let_to(5)
                with self.assertRaises(Back):
                    tell(keeper, method, 4)
                self.assertIsNone(keeper.let_to(5))
                self.assertIs(keeper.asked(5, 3, (0, 0)), True)

    def test_a_refusal_does_not_change_the_latest_reading(self):
        for method in METHODS:
            with self.subTest(method=method):
                keeper = letting_keeper(ANN, NUMBER, 10)
                keeper.let_to(15)
                with self.assertRaises(Back):
                    tell(keeper, method, 12)
                # Had it taken 12 for the latest, it would take 13 and 14.
                for clock in (12, 13, 14):
                    with self.assertRaises(Back):
                        keeper.let_to(clock)
                self.assertEqual(keeper.let_to(15), ANN)

    def test_a_refusal_does_not_change_the_wait_of_a_new_one(self):
        for method in METHODS:
            with self.subTest(method=method):
                keeper = Keeper(terms(), 10)
                with self.assertRaises(Back):
                    tell(keeper, method, 9)
                self.assertIs(keeper.asked(10 + WAIT - 1, ANN, NUMBER), False)
                self.assertIs(keeper.asked(10 + WAIT, ANN, NUMBER), True)

    def test_it_is_no_other_refusal(self):
        for method in METHODS:
            with self.subTest(method=method):
                with self.assertRaises(Back) as taken:
                    tell(Keeper(terms(), 0), method, -1)
                self.assertNotIsInstance(taken.exception, (BadTerms, NoKeeper, NotAsked))


class KindsTest(unittest.TestCase):
    def test_each_answer_is_of_its_kind(self):
        keeper = Keeper(terms(), 0)
        self.assertIs(type(keeper.asked(0, ANN, NUMBER)), bool)
        self.assertIs(type(keeper.asked(WAIT, ANN, NUMBER)), bool)
        self.assertIs(type(keeper.asked(WAIT, ANN, NUMBER)), bool)
        self.assertIs(type(keeper.asked(WAIT, BEN, NUMBER)), bool)
        self.assertIs(type(keeper.asked(WAIT, ANN, (5, 4))), bool)
        self.assertIs(type(keeper.let_to(WAIT)), int)
        self.assertIsNone(keeper.freed(WAIT, BEN, NUMBER))
        self.assertIsNone(keeper.freed(WAIT, ANN, NUMBER))
        self.assertIsNone(keeper.let_to(WAIT))

    def test_arguments_may_be_handed_in_by_name(self):
        keeper = Keeper(terms=terms(), clock=0)
        self.assertIs(keeper.asked(clock=WAIT, name=ANN, number=NUMBER), True)
        self.assertEqual(keeper.let_to(clock=WAIT), ANN)
        self.assertIsNone(keeper.freed(clock=WAIT, name=ANN, number=NUMBER))
        self.assertIsNone(keeper.let_to(clock=WAIT))

    def test_terms_are_neither_changed_nor_kept(self):
        given = terms()
        keeper = Keeper(given, 0)
        keeper.asked(WAIT, ANN, NUMBER)
        self.assertEqual((given.low, given.high, given.length, given.keepers), TERMS)
        given.low, given.high, given.length, given.keepers = 1, 1, 1, 1
        self.assertIs(keeper.asked(2 * WAIT - 1, BEN, NUMBER), False)
        self.assertIs(keeper.asked(2 * WAIT, BEN, NUMBER), True)

    def test_keepers_with_the_same_terms_are_apart(self):
        given = terms()
        first, second = Keeper(given, 0), Keeper(given, 100)
        self.assertIs(first.asked(WAIT, ANN, NUMBER), True)
        self.assertIsNone(second.let_to(100))
        self.assertIs(second.asked(100 + WAIT, BEN, NUMBER), True)
        self.assertEqual(first.let_to(WAIT), ANN)


if __name__ == "__main__":
    unittest.main()
