"""Runs of keepers and holders over clocks that drift and messages that go astray: at no moment two hold."""

import random
import unittest

from leasehold.errors import LeaseError
from leasehold.holders import Holder
from leasehold.keepers import Keeper
from leasehold.terms import Terms

PACES = ("slow", "fast", "any")
STEPS = ("tick",) * 6 + ("talk",) * 6 + ("ask",) * 2 + ("deliver",) * 6 + ("free", "look")


class Drifting:
    """A clock that goes on by low to high at each tick, at a pace of its own."""

    def __init__(self, chance, terms, pace):
        self.chance = chance
        self.terms = terms
        self.reading = chance.randint(-100, 100)
        self.pace = pace or chance.choice(PACES)

    def tick(self):
        if self.pace == "slow":
            self.reading += self.terms.low
        elif self.pace == "fast":
            self.reading += self.terms.high
        else:
            self.reading += self.chance.randint(self.terms.low, self.terms.high)


class Run:
    """One run by one seed. Whatever was once sent may come at any later step, again and again, or never."""

    def __init__(self, seed, keeper_class=Keeper, holder_class=Holder):
        self.chance = random.Random(seed)
        self.keeper_class = keeper_class
        self.holder_class = holder_class
        low = self.chance.randint(1, 4)
        self.terms = Terms(low, self.chance.randint(low, low + 3), self.chance.randint(1, 12), self.chance.randint(1, 5))
        # In some runs nobody begins anew, so that leases come to their ends.
        self.anew = self.chance.choice((0, 1))
        # Fast keepers and slow holders are the hardest.
        self.paces = self.chance.choice(((None, None), ("fast", "slow")))
        self.keeper_clocks = [self.keeper_clock() for place in range(self.terms.keepers)]
        self.keepers = [keeper_class(self.terms, clock.reading) for clock in self.keeper_clocks]
        self.names = self.chance.choice(((0, 1), (-1, 0, 1), (3, -3)))
        self.lives = {name: self.chance.randint(-2, 2) for name in self.names}
        self.holders = {}
        self.holder_clocks = {name: Drifting(self.chance, self.terms, self.paces[1]) for name in self.names}
        self.sent = []
        self.held = []
        for name in self.names:
            self.begin_holder(name)

    def keeper_clock(self):
        return Drifting(self.chance, self.terms, self.paces[0])

    def begin_holder(self, name):
        self.lives[name] += self.chance.randint(1, 2)
        clock = self.holder_clocks[name].reading
        self.holders[name] = self.holder_class(self.terms, name, self.lives[name], clock)

    def begin_keeper(self):
        place = self.chance.randrange(self.terms.keepers)
        self.keeper_clocks[place] = self.keeper_clock()
        self.keepers[place] = self.keeper_class(self.terms, self.keeper_clocks[place].reading)

    def send_to_all(self, kind, name, number):
        messages = [(kind, place, name, number) for place in range(self.terms.keepers)]
        self.sent.extend(messages)
        return messages

    def ask(self, name):
        return self.send_to_all("asked", name, self.holders[name].ask(self.holder_clocks[name].reading))

    def deliver(self, message):
        kind, place, name, number = message
        clock = self.keeper_clocks[place].reading
        if kind == "asked":
            if self.keepers[place].asked(clock, name, number):
                self.sent.append(("yes", place, name, number))
        elif kind == "freed":
            self.keepers[place].freed(clock, name, number)
        else:
            self.holders[name].hear(self.holder_clocks[name].reading, place, number)

    def talk(self, name):
        """An ask of which most is delivered at once, so that somebody gets to hold."""
        for message in self.ask(name):
            if self.chance.random() < 0.8:
                self.deliver(message)
                if self.sent[-1][0] == "yes" and self.chance.random() < 0.8:
                    self.deliver(self.sent[-1])

    def free(self, name):
        try:
            number = self.holders[name].free(self.holder_clocks[name].reading)
        except LeaseError:
            return
        self.send_to_all("freed", name, number)

    def step(self):
        kind = self.chance.choice(STEPS + ("keeper", "holder") * self.anew)
        name = self.chance.choice(self.names)
        if kind == "tick":
            for clock in self.keeper_clocks + list(self.holder_clocks.values()):
                clock.tick()
        elif kind == "talk":
            self.talk(name)
        elif kind == "ask":
            self.ask(name)
        elif kind == "deliver" and self.sent:
            self.deliver(self.chance.choice(self.sent[-20:] if self.chance.random() < 0.5 else self.sent))
        elif kind == "free":
            self.free(name)
        elif kind == "keeper":
            self.begin_keeper()
        elif kind == "holder":
            self.begin_holder(name)
        else:
            for keeper, clock in zip(self.keepers, self.keeper_clocks):
                keeper.let_to(clock.reading)

    def holding(self):
        return [name for name in self.names if self.holders[name].holds(self.holder_clocks[name].reading)]

    def two_hold(self, steps):
        """Whether at some moment of so many steps two hold; who held is kept in held."""
        for count in range(steps):
            self.step()
            holding = self.holding()
            if len(holding) > 1:
                return True
            self.held.extend(holding)
        return False


class HastyKeeper(Keeper):
    """Waits one tick less than it should."""

    def __init__(self, terms, clock):
        Keeper.__init__(self, terms, clock)
        self.pause -= terms.high


class BoldKeeper(Keeper):
    """Lets as soon as it is new."""

    def __init__(self, terms, clock):
        Keeper.__init__(self, terms, clock)
        self.over = clock


class EasyKeeper(Keeper):
    """Takes back what it let by whatever number it is freed."""

    def freed(self, clock, name, number):
        Keeper.freed(self, clock, name, (10 ** 9, 0))


class LateHolder(Holder):
    """Counts from when it hears."""

    def hear(self, clock, keeper, number):
        if number[0] == self.life and number[1] in self.asks:
            self.ends[keeper] = max(self.ends[keeper], clock + self.length)


class GreedyHolder(Holder):
    """Holds by one keeper less than most."""

    def __init__(self, terms, name, life, clock):
        Holder.__init__(self, terms, name, life, clock)
        self.needed = max(1, self.needed - 1)


class ClingingHolder(Holder):
    """Goes on counting what it heard before it gave back."""

    def free(self, clock):
        ends = list(self.ends)
        number = Holder.free(self, clock)
        self.ends = ends
        return number


class LongHolder(Holder):
    """Holds for one reading too long."""

    def __init__(self, terms, name, life, clock):
        Holder.__init__(self, terms, name, life, clock)
        self.length += 1


class RunsTest(unittest.TestCase):
    def test_at_no_moment_two_hold(self):
        for seed in range(400):
            with self.subTest(seed=seed):
                self.assertIs(Run(seed).two_hold(400), False)

    def test_in_the_runs_many_hold_one_behind_another(self):
        changing = 0
        for seed in range(100):
            run = Run(seed)
            run.two_hold(400)
            changing += len(set(run.held)) > 1
        self.assertGreater(changing, 50)

    def test_the_runs_find_two_that_hold_where_a_promise_is_broken(self):
        broken = (
            (HastyKeeper, Holder), (BoldKeeper, Holder), (EasyKeeper, Holder), (Keeper, LateHolder),
            (Keeper, GreedyHolder), (Keeper, ClingingHolder), (Keeper, LongHolder),
        )
        for keeper_class, holder_class in broken:
            with self.subTest(keeper=keeper_class.__name__, holder=holder_class.__name__):
                found = any(Run(seed, keeper_class, holder_class).two_hold(400) for seed in range(400))
                self.assertIs(found, True)


class EdgeTest(unittest.TestCase):
    """Slow holders and fast keepers, where the next may hold just when the one before holds no more."""

    def ask_all(self, keepers, clock, name, number):
        return [keeper.asked(clock, name, number) for keeper in keepers]

    def test_the_next_may_hold_with_the_tick_with_which_the_first_holds_no_more(self):
        for parts in ((1, 1, 1, 1), (3, 5, 10, 4), (3, 3, 9, 5), (7, 9, 6, 9), (2, 1000, 11, 3), (1000, 1000, 2500, 2)):
            with self.subTest(parts=parts):
                terms = Terms(*parts)
                places = range(terms.keepers)
                keepers = [Keeper(terms, -terms.wait()) for place in places]
                first, second = Holder(terms, 0, 1, 0), Holder(terms, -1, 1, 0)
                number = first.ask(0)
                self.assertEqual(self.ask_all(keepers, 0, 0, number), [True for place in places])
                for place in places:
                    first.hear(0, place, number)
                last = terms.ticks() - 1
                self.assertIs(first.holds(last * terms.low), True)
                self.assertEqual(
                    self.ask_all(keepers, last * terms.high, -1, second.ask(0)), [False for place in places])
                self.assertIs(first.holds((last + 1) * terms.low), False)
                number = second.ask(0)
                self.assertEqual(
                    self.ask_all(keepers, (last + 1) * terms.high, -1, number), [True for place in places])
                for place in places:
                    second.hear(0, place, number)
                self.assertIs(second.holds(0), True)

    def test_a_keeper_that_begins_anew_waits_till_what_it_let_must_be_over(self):
        terms = Terms(3, 5, 10, 1)
        holder = Holder(terms, 1, 1, 0)
        keeper = Keeper(terms, -20)
        number = holder.ask(0)
        self.assertIs(keeper.asked(0, 1, number), True)
        holder.hear(0, 0, number)
        anew = Keeper(terms, 0)
        self.assertIs(holder.holds(9), True)
        self.assertIs(anew.asked(15, 2, (1, 0)), False)
        self.assertIs(holder.holds(12), False)
        self.assertIs(anew.asked(20, 2, (1, 0)), True)

    def test_what_was_given_back_may_be_had_at_once(self):
        terms = Terms(3, 5, 10, 3)
        keepers = [Keeper(terms, -20) for place in range(3)]
        first, second = Holder(terms, 1, 1, 0), Holder(terms, 2, 1, 0)
        number = first.ask(0)
        for place in range(3):
            self.assertIs(keepers[place].asked(0, first.name, number), True)
            first.hear(0, place, number)
        self.assertIs(first.holds(0), True)
        back = first.free(0)
        number = second.ask(0)
        for place in range(2):
            keepers[place].freed(0, first.name, back)
            self.assertIs(keepers[place].asked(0, second.name, number), True)
            second.hear(0, place, number)
        self.assertIs(first.holds(0), False)
        self.assertIs(second.holds(0), True)

    def test_a_free_of_a_life_before_does_not_take_from_the_next(self):
        terms = Terms(3, 5, 10, 1)
        keeper = Keeper(terms, -20)
        before = Holder(terms, 1, 1, 0)
        for clock in range(4):
            before.ask(clock)
        back = before.free(4)
        after = Holder(terms, 1, 2, 5)
        number = after.ask(5)
        self.assertIs(keeper.asked(5, 1, number), True)
        after.hear(5, 0, number)
        keeper.freed(6, 1, back)
        self.assertEqual(keeper.let_to(6), 1)
        self.assertIs(keeper.asked(6, 2, (9, 9)), False)


if __name__ == "__main__":
    unittest.main()
