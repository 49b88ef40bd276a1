import unittest

from leasehold.errors import Back, NoKeeper, NotAsked
from leasehold.holders import Holder
from leasehold.terms import Terms

FAR = 999999999999999
STARTS = (-FAR, -1000, -11, -10, -1, 0, 1, 9, 10, 11, 1000, FAR)
LIVES = (-FAR, -1, 0, 1, 7, FAR)
ANN = 1
LIFE = 5

# Of 5 keepers 3 are most.
TERMS = (3, 5, 10, 5)
LENGTH = 10
KEEPERS = 5
MOST = 3


def terms():
    return Terms(*TERMS)


def new_holder(clock=0, life=LIFE, name=ANN):
    return Holder(terms(), name, life, clock)


def hear_all(holder, clock, number, keepers=(0, 1, 2)):
    for keeper in keepers:
        holder.hear(clock, keeper, number)


def holding(clock=0):
    """A holder that asked at this reading, and that number; most keepers let to it."""
    holder = new_holder(clock)
    number = holder.ask(clock)
    hear_all(holder, clock, number)
    return holder, number


class AskTest(unittest.TestCase):
    def test_numbers_one_behind_another(self):
        for life in LIVES:
            with self.subTest(life=life):
                holder = new_holder(0, life)
                told = [holder.ask(clock) for clock in (0, 0, 1, 5, 9, 10, 11, 500, FAR)]
                self.assertEqual(told, [(life, before) for before in range(9)])

    def test_another_life_begins_at_zero(self):
        first = new_holder(0, 1)
        self.assertEqual([first.ask(0), first.ask(1)], [(1, 0), (1, 1)])
        second = new_holder(2, 2)
        self.assertEqual([second.ask(2), second.ask(2)], [(2, 0), (2, 1)])
        self.assertEqual(first.ask(3), (1, 2))

    def test_numbers_go_on_behind_free(self):
        holder = new_holder()
        self.assertEqual(holder.ask(0), (LIFE, 0))
        self.assertEqual(holder.ask(0), (LIFE, 1))
        self.assertEqual(holder.free(1), (LIFE, 1))
        self.assertEqual(holder.ask(1), (LIFE, 2))
        self.assertEqual(holder.free(500), (LIFE, 2))
        self.assertEqual(holder.ask(500), (LIFE, 3))

    def test_numbers_heed_neither_name_nor_what_is_heard(self):
        for name in (-FAR, -1, 0, 1, FAR):
            with self.subTest(name=name):
                holder = new_holder(0, 0, name)
                hear_all(holder, 0, holder.ask(0))
                self.assertIs(holder.holds(0), True)
                holder.hear(0, 0, (0, 5))
                self.assertEqual(holder.ask(0), (0, 1))

    def test_a_great_many_asks_each_with_its_reading(self):
        for step in (0, 1, 7):
            with self.subTest(step=step):
                holder = new_holder()
                for before in range(3000):
                    self.assertEqual(holder.ask(before * step), (LIFE, before))
                clock = 2999 * step
                hear_all(holder, clock, (LIFE, 2998))
                self.assertEqual(holder.until(clock), 2998 * step + LENGTH)
                hear_all(holder, clock, (LIFE, 2999))
                self.assertEqual(holder.until(clock), clock + LENGTH)
                self.assertEqual(holder.free(clock), (LIFE, 2999))

    def test_asks_that_are_over_do_not_pile_up(self):
        holder = new_holder()
        for clock in range(3000):
            holder.ask(clock)
            self.assertLessEqual(len(holder.asks), LENGTH)
        holder.ask(FAR)
        self.assertEqual(len(holder.asks), 1)

    def test_to_ask_alone_holds_nothing(self):
        holder = new_holder()
        holder.ask(0)
        self.assertIs(holder.holds(0), False)
        self.assertIsNone(holder.until(0))

    def test_to_ask_anew_ends_nothing(self):
        holder, number = holding()
        holder.ask(4)
        self.assertEqual(holder.until(4), LENGTH)
        self.assertIs(holder.holds(LENGTH - 1), True)
        self.assertIs(holder.holds(LENGTH), False)


class HearTest(unittest.TestCase):
    def test_it_counts_from_when_it_asked(self):
        for start in STARTS:
            for heard in (0, 1, LENGTH - 1):
                with self.subTest(start=start, heard=heard):
                    holder = new_holder(start - 3)
                    number = holder.ask(start)
                    hear_all(holder, start + heard, number)
                    self.assertEqual(holder.until(start + heard), start + LENGTH)
                    self.assertIs(holder.holds(start + LENGTH - 1), True)
                    self.assertIs(holder.holds(start + LENGTH), False)

    def test_too_late(self):
        for heard in (LENGTH, LENGTH + 1, FAR):
            with self.subTest(heard=heard):
                holder = new_holder()
                number = holder.ask(0)
                hear_all(holder, heard, number)
                self.assertIs(holder.holds(heard), False)
                self.assertIsNone(holder.until(heard))

    def test_too_late_behind_other_asks(self):
        holder = new_holder()
        old = holder.ask(0)
        holder.ask(LENGTH - 1)
        new = holder.ask(LENGTH)
        hear_all(holder, LENGTH, old)
        self.assertIs(holder.holds(LENGTH), False)
        hear_all(holder, LENGTH, (LIFE, 1))
        self.assertEqual(holder.until(LENGTH), 2 * LENGTH - 1)
        hear_all(holder, LENGTH, new)
        self.assertEqual(holder.until(LENGTH), 2 * LENGTH)

    def test_numbers_by_which_it_did_not_ask(self):
        strange = (
            (LIFE, 1), (LIFE, 2), (LIFE, FAR), (LIFE, -1), (LIFE, -2), (LIFE, -FAR),
            (LIFE - 1, 0), (LIFE + 1, 0), (0, 0), (-LIFE, 0), (0, LIFE), (LIFE, LIFE), (FAR, FAR), (-FAR, -FAR),
        )
        for number in strange:
            with self.subTest(number=number):
                holder = new_holder()
                holder.ask(0)
                hear_all(holder, 0, number, range(KEEPERS))
                self.assertIs(holder.holds(0), False)
                self.assertIsNone(holder.until(0))

    def test_before_it_ever_asked(self):
        for number in ((LIFE, 0), (LIFE, -1), (LIFE, 1), (0, 0)):
            with self.subTest(number=number):
                holder = new_holder()
                hear_all(holder, 0, number, range(KEEPERS))
                self.assertIs(holder.holds(0), False)

    def test_a_number_not_yet_asked_counts_not_even_when_it_is_asked_later(self):
        holder = new_holder()
        hear_all(holder, 0, (LIFE, 0))
        self.assertEqual(holder.ask(0), (LIFE, 0))
        self.assertIs(holder.holds(0), False)
        hear_all(holder, 0, (LIFE, 0))
        self.assertIs(holder.holds(0), True)

    def test_a_number_of_another_life(self):
        old = new_holder(0, 1)
        number = old.ask(0)
        anew = new_holder(1, 2)
        anew.ask(1)
        hear_all(anew, 1, number)
        self.assertIs(anew.holds(1), False)
        hear_all(anew, 1, (2, 0))
        self.assertIs(anew.holds(1), True)

    def test_lives_that_are_zero_or_negative(self):
        for life in LIVES:
            with self.subTest(life=life):
                holder = new_holder(0, life)
                number = holder.ask(0)
                hear_all(holder, 0, (life - 1, 0))
                hear_all(holder, 0, (life + 1, 0))
                self.assertIs(holder.holds(0), False)
                hear_all(holder, 0, number)
                self.assertIs(holder.holds(0), True)

    def test_a_number_asked_before_free(self):
        holder = new_holder()
        first, second = holder.ask(0), holder.ask(1)
        holder.free(2)
        for number in (first, second):
            hear_all(holder, 2, number, range(KEEPERS))
            self.assertIs(holder.holds(2), False)
        third = holder.ask(3)
        for number in (first, second):
            hear_all(holder, 3, number, range(KEEPERS))
            self.assertIs(holder.holds(3), False)
        hear_all(holder, 3, third)
        self.assertEqual(holder.until(3), 3 + LENGTH)

    def test_of_one_keeper_by_an_older_and_a_newer_number_in_both_orders(self):
        for order in ((0, 1), (1, 0)):
            with self.subTest(order=order):
                holder = new_holder()
                numbers = [holder.ask(0), holder.ask(4)]
                for place in order:
                    hear_all(holder, 5, numbers[place])
                self.assertEqual(holder.until(5), 4 + LENGTH)
                self.assertIs(holder.holds(3 + LENGTH), True)
                self.assertIs(holder.holds(4 + LENGTH), False)

    def test_the_longer_is_kept_for_each_keeper_by_itself(self):
        holder = new_holder()
        old, new = holder.ask(0), holder.ask(4)
        hear_all(holder, 4, old)
        holder.hear(4, 0, new)
        holder.hear(4, 1, new)
        self.assertEqual(holder.until(4), LENGTH)
        holder.hear(4, 0, old)
        holder.hear(4, 2, new)
        self.assertEqual(holder.until(4), 4 + LENGTH)

    def test_the_same_twice_counts_once(self):
        holder = new_holder()
        number = holder.ask(0)
        hear_all(holder, 0, number, (0, 0, 0, 1, 1, 0))
        self.assertIs(holder.holds(0), False)
        holder.hear(0, 4, number)
        self.assertIs(holder.holds(0), True)

    def test_the_same_twice_does_not_lengthen(self):
        holder, number = holding()
        hear_all(holder, 7, number)
        self.assertEqual(holder.until(7), LENGTH)
        self.assertIs(holder.holds(LENGTH), False)

    def test_the_length_is_that_of_the_terms(self):
        for parts in ((1, 1, 1, 1), (7, 9, 6, 1), (1, 1000, 1000000, 1), (1000, 1000, 999999, 1)):
            with self.subTest(parts=parts):
                holder = Holder(Terms(*parts), ANN, LIFE, 0)
                holder.hear(0, 0, holder.ask(0))
                self.assertEqual(holder.until(0), parts[2])
                self.assertIs(holder.holds(parts[2] - 1), True)
                self.assertIs(holder.holds(parts[2]), False)


class NoKeeperTest(unittest.TestCase):
    def test_at_the_ends_and_one_past_each(self):
        for keepers in range(1, 10):
            given = Terms(3, 5, 10, keepers)
            for keeper in range(keepers):
                with self.subTest(keepers=keepers, keeper=keeper):
                    holder = Holder(given, ANN, LIFE, 0)
                    self.assertIsNone(holder.hear(0, keeper, holder.ask(0)))
            for keeper in (-1, -2, -keepers, -keepers - 1, -FAR, keepers, keepers + 1, 10, FAR):
                with self.subTest(keepers=keepers, keeper=keeper):
                    holder = Holder(given, ANN, LIFE, 0)
                    number = holder.ask(0)
                    with self.assertRaises(NoKeeper):
                        holder.hear(0, keeper, number)

    def test_of_any_number(self):
        for number in ((LIFE, 0), (LIFE, 1), (LIFE - 1, 0), (-1, -1)):
            for keeper in (-1, KEEPERS):
                with self.subTest(number=number, keeper=keeper):
                    holder = new_holder()
                    holder.ask(0)
                    with self.assertRaises(NoKeeper):
                        holder.hear(0, keeper, number)

    def test_ahead_of_back(self):
        for keeper in (-1, KEEPERS):
            with self.subTest(keeper=keeper):
                holder = new_holder(5)
                with self.assertRaises(NoKeeper):
                    holder.hear(4, keeper, (LIFE, 0))
                with self.assertRaises(Back):
                    holder.hear(4, 0, (LIFE, 0))

    def test_it_changes_nothing(self):
        for keeper in (-1, -KEEPERS, KEEPERS):
            with self.subTest(keeper=keeper):
                holder = new_holder()
                number = holder.ask(0)
                hear_all(holder, 1, number, (0, 1))
                for clock in (1, 5, FAR):
                    with self.assertRaises(NoKeeper):
                        holder.hear(clock, keeper, number)
                # Not the latest reading, not what is held, not the numbers.
                self.assertIs(holder.holds(1), False)
                holder.hear(1, 2, number)
                self.assertEqual(holder.until(1), LENGTH)
                with self.assertRaises(NoKeeper):
                    holder.hear(FAR, keeper, number)
                self.assertEqual(holder.until(1), LENGTH)
                self.assertEqual(holder.ask(1), (LIFE, 1))


class HoldsTest(unittest.TestCase):
    def test_with_each_number_of_keepers_that_let(self):
        for keepers in range(1, 10):
            most = keepers // 2 + 1
            for letting in range(keepers + 1):
                with self.subTest(keepers=keepers, letting=letting):
                    holder = Holder(Terms(3, 5, LENGTH, keepers), ANN, LIFE, 0)
                    number = holder.ask(0)
                    hear_all(holder, 0, number, range(letting))
                    self.assertIs(holder.holds(0), letting >= most)
                    self.assertEqual(holder.until(0), LENGTH if letting >= most else None)
                    self.assertIs(holder.holds(LENGTH - 1), letting >= most)
                    self.assertIs(holder.holds(LENGTH), False)

    def test_whichever_keepers_let(self):
        for keepers in ((0, 1, 2), (2, 3, 4), (0, 2, 4), (4, 1, 3)):
            with self.subTest(keepers=keepers):
                holder = new_holder()
                hear_all(holder, 0, holder.ask(0), keepers)
                self.assertIs(holder.holds(0), True)

    def test_just_most_with_ends_that_differ(self):
        holder = new_holder()
        for keeper, clock in ((4, 0), (1, 2), (3, 5)):
            holder.hear(clock, keeper, holder.ask(clock))
        self.assertEqual(holder.until(5), LENGTH)
        self.assertIs(holder.holds(LENGTH - 1), True)
        self.assertEqual(holder.until(LENGTH - 1), LENGTH)
        self.assertIs(holder.holds(LENGTH), False)
        self.assertIsNone(holder.until(LENGTH))

    def test_more_than_most_with_ends_that_differ(self):
        for order in ((0, 1, 2, 3, 4), (4, 3, 2, 1, 0), (2, 4, 0, 3, 1)):
            with self.subTest(order=order):
                holder = new_holder()
                for clock, keeper in enumerate(order):
                    holder.hear(clock, keeper, holder.ask(clock))
                # Ends at 10, 11, 12, 13, 14: with 12 two are left.
                self.assertEqual(holder.until(4), 12)
                for clock in (10, 11):
                    self.assertIs(holder.holds(clock), True)
                    self.assertEqual(holder.until(clock), 12)
                for clock in (12, 13, 14, 15, FAR):
                    self.assertIs(holder.holds(clock), False)
                    self.assertIsNone(holder.until(clock))

    def test_an_even_number_of_keepers(self):
        holder = Holder(Terms(3, 5, LENGTH, 4), ANN, LIFE, 0)
        for clock in range(4):
            holder.hear(clock, clock, holder.ask(clock))
        # Ends at 10, 11, 12, 13: 3 are most, so with 11 it is over.
        self.assertEqual(holder.until(3), 11)
        self.assertIs(holder.holds(10), True)
        self.assertIs(holder.holds(11), False)

    def test_renewed_before_the_end(self):
        holder, number = holding()
        hear_all(holder, LENGTH - 1, holder.ask(LENGTH - 1))
        self.assertEqual(holder.until(LENGTH - 1), 2 * LENGTH - 1)
        self.assertIs(holder.holds(LENGTH), True)
        self.assertIs(holder.holds(2 * LENGTH - 2), True)
        self.assertIs(holder.holds(2 * LENGTH - 1), False)

    def test_renewed_behind_the_end(self):
        holder, number = holding()
        self.assertIs(holder.holds(LENGTH), False)
        hear_all(holder, LENGTH + 1, holder.ask(LENGTH))
        self.assertEqual(holder.until(LENGTH + 1), 2 * LENGTH)

    def test_what_is_over_is_not_put_together_with_what_is_new(self):
        holder = new_holder()
        hear_all(holder, 0, holder.ask(0), (0, 1))
        holder.hear(LENGTH, 2, holder.ask(LENGTH))
        self.assertIs(holder.holds(LENGTH), False)

    def test_readings_below_zero(self):
        for start in STARTS:
            with self.subTest(start=start):
                holder, number = holding(start)
                self.assertIs(holder.holds(start), True)
                self.assertEqual(holder.until(start + LENGTH - 1), start + LENGTH)
                self.assertIs(holder.holds(start + LENGTH), False)

    def test_an_end_at_reading_zero_is_told(self):
        holder, number = holding(-LENGTH)
        self.assertEqual(holder.until(-1), 0)
        self.assertIs(holder.holds(-1), True)
        self.assertIs(holder.holds(0), False)

    def test_a_new_one_holds_nothing(self):
        for start in STARTS:
            with self.subTest(start=start):
                holder = new_holder(start)
                self.assertIs(holder.holds(start), False)
                self.assertIsNone(holder.until(start))
                self.assertIsNone(holder.until(start + FAR))

    def test_to_look_changes_nothing(self):
        holder, number = holding()
        for clock in (0, 0, 3, 3, 9, 9):
            self.assertIs(holder.holds(clock), True)
            self.assertEqual(holder.until(clock), LENGTH)


class FreeTest(unittest.TestCase):
    def test_the_last_number_is_told_and_it_holds_no_more(self):
        for asks in (1, 2, 5):
            with self.subTest(asks=asks):
                holder = new_holder()
                for clock in range(asks):
                    hear_all(holder, clock, holder.ask(clock), range(KEEPERS))
                self.assertIs(holder.holds(asks), True)
                self.assertEqual(holder.free(asks), (LIFE, asks - 1))
                self.assertIs(holder.holds(asks), False)
                self.assertIsNone(holder.until(asks))

    def test_with_nothing_heard(self):
        holder = new_holder()
        holder.ask(0)
        self.assertEqual(holder.free(0), (LIFE, 0))

    def test_behind_the_end(self):
        holder, number = holding()
        self.assertEqual(holder.free(LENGTH + 5), number)
        self.assertIs(holder.holds(LENGTH + 5), False)

    def test_twice_tells_the_same(self):
        holder, number = holding()
        self.assertEqual(holder.free(1), number)
        self.assertEqual(holder.free(1), number)
        self.assertEqual(holder.free(50), number)
        self.assertEqual(holder.ask(50), (LIFE, 1))
        self.assertEqual(holder.free(50), (LIFE, 1))

    def test_what_was_heard_of_one_keeper_is_gone_too(self):
        holder = new_holder()
        first = holder.ask(0)
        hear_all(holder, 0, first, (0, 1))
        holder.free(1)
        second = holder.ask(1)
        holder.hear(1, 2, second)
        self.assertIs(holder.holds(1), False)
        hear_all(holder, 1, second, (3, 4))
        self.assertEqual(holder.until(1), 1 + LENGTH)

    def test_it_may_hold_again(self):
        holder, number = holding()
        holder.free(3)
        hear_all(holder, 3, holder.ask(3))
        self.assertEqual(holder.until(3), 3 + LENGTH)

    def test_before_it_ever_asked(self):
        for start in STARTS:
            for life in LIVES:
                with self.subTest(start=start, life=life):
                    holder = new_holder(start, life)
                    for clock in (start, start + 1, start + FAR):
                        with self.assertRaises(NotAsked):
                            holder.free(clock)

    def test_another_life_has_not_asked(self):
        holding()
        with self.assertRaises(NotAsked):
            new_holder(0, LIFE + 1).free(0)

    def test_to_hear_is_not_to_ask(self):
        holder = new_holder()
        hear_all(holder, 0, (LIFE, 0))
        with self.assertRaises(NotAsked):
            holder.free(0)

    def test_not_asked_stands_behind_back(self):
        holder = new_holder(5)
        with self.assertRaises(Back):
            holder.free(4)
        with self.assertRaises(NotAsked):
            holder.free(5)

    def test_not_asked_changes_nothing(self):
        holder = new_holder()
        for clock in (0, 7, FAR):
            with self.assertRaises(NotAsked):
                holder.free(clock)
        # Neither the latest reading nor the numbers.
        self.assertIs(holder.holds(0), False)
        self.assertEqual(holder.ask(0), (LIFE, 0))
        hear_all(holder, 0, (LIFE, 0))
        self.assertEqual(holder.until(0), LENGTH)


METHODS = ("ask", "hear", "hear strange", "holds", "until", "free")


def tell(holder, method, clock):
    if method == "ask":
        return holder.ask(clock)
    if method == "hear":
        return holder.hear(clock, 3, (LIFE, 1))
    if method == "hear strange":
        return holder.hear(clock, 3, (LIFE - 1, -1))
    if method == "holds":
        return holder.holds(clock)
    if method == "until":
        return holder.until(clock)
    return holder.free(clock)


class BackTest(unittest.TestCase):
    def test_one_less_than_the_reading_at_which_it_was_new(self):
        for start in STARTS:
            for method in METHODS:
                with self.subTest(start=start, method=method):
                    with self.assertRaises(Back):
                        tell(new_holder(start), method, start - 1)
                    if method != "free":
                        tell(new_holder(start), method, start)

    def test_one_less_than_a_reading_that_each_method_was_shown(self):
        for start in STARTS:
            for first in METHODS:
                for second in METHODS:
                    with self.subTest(start=start, first=first, second=second):
                        holder, number = holding(start)
                        tell(holder, first, start + 4)
                        with self.assertRaises(Back):
                            tell(holder, second, start + 3)
                        tell(holder, second, start + 4)

    def test_a_reading_far_back(self):
        for method in METHODS:
            with self.subTest(method=method):
                with self.assertRaises(Back):
                    tell(new_holder(), method, -FAR)

    def test_a_refusal_does_not_change_what_is_held_or_the_numbers(self):
        for method in METHODS:
            with self.subTest(method=method):
                holder = new_holder()
                hear_all(holder, 0, holder.ask(0), (0, 1, 2))
                second = holder.ask(4)
                hear_all(holder, 5, second, (0, 1))
                # Were the refused one heard, keeper 3 would let by the second number till 14.
                with self.assertRaises(Back):
                    tell(holder, method, 4)
                self.assertEqual(holder.until(5), LENGTH)
                self.assertIs(holder.holds(5), True)
                hear_all(holder, 5, second, (2,))
                self.assertEqual(holder.until(5), 4 + LENGTH)
                self.assertEqual(holder.ask(5), (LIFE, 2))
                self.assertEqual(holder.free(5), (LIFE, 2))

    def test_a_refusal_does_not_change_the_latest_reading(self):
        for method in METHODS:
            with self.subTest(method=method):
                holder, number = holding(0)
                holder.holds(5)
                with self.assertRaises(Back):
                    tell(holder, method, 2)
                # Had it taken 2 for the latest, it would take 3 and 4.
                for clock in (2, 3, 4):
                    with self.assertRaises(Back):
                        holder.holds(clock)
                self.assertIs(holder.holds(5), True)


class KindsTest(unittest.TestCase):
    def number_kind(self, number):
        self.assertIs(type(number), tuple)
        self.assertEqual([type(part) for part in number], [int, int])

    def test_each_answer_is_of_its_kind(self):
        holder = new_holder()
        self.assertIs(type(holder.holds(0)), bool)
        self.assertIsNone(holder.until(0))
        number = holder.ask(0)
        self.number_kind(number)
        for keeper in range(KEEPERS):
            self.assertIsNone(holder.hear(0, keeper, number))
        self.assertIsNone(holder.hear(0, 0, (0, 0)))
        self.assertIs(type(holder.holds(0)), bool)
        self.assertIs(type(holder.until(0)), int)
        self.number_kind(holder.free(0))

    def test_arguments_may_be_handed_in_by_name(self):
        holder = Holder(terms=Terms(3, 5, 10, 1), name=ANN, life=LIFE, clock=0)
        self.assertEqual(holder.ask(clock=0), (LIFE, 0))
        self.assertIsNone(holder.hear(clock=0, keeper=0, number=(LIFE, 0)))
        self.assertIs(holder.holds(clock=0), True)
        self.assertEqual(holder.until(clock=0), 10)
        self.assertEqual(holder.free(clock=0), (LIFE, 0))

    def test_terms_are_neither_changed_nor_kept(self):
        given = terms()
        holder = Holder(given, ANN, LIFE, 0)
        number = holder.ask(0)
        hear_all(holder, 0, number, (0, 1))
        self.assertEqual((given.low, given.high, given.length, given.keepers), TERMS)
        given.low, given.high, given.length, given.keepers = 1, 1, 1, 1
        self.assertIs(holder.holds(0), False)
        holder.hear(0, 4, number)
        self.assertEqual(holder.until(0), LENGTH)
        with self.assertRaises(NoKeeper):
            holder.hear(0, KEEPERS, number)

    def test_holders_with_the_same_terms_are_apart(self):
        given = terms()
        first, second = Holder(given, 1, LIFE, 0), Holder(given, 2, LIFE, 0)
        hear_all(first, 0, first.ask(0))
        hear_all(second, 0, (LIFE, 0))
        self.assertIs(first.holds(0), True)
        self.assertIs(second.holds(0), False)
        self.assertEqual(second.ask(0), (LIFE, 0))
        second.free(0)
        self.assertIs(first.holds(0), True)


if __name__ == "__main__":
    unittest.main()
