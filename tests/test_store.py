"""Points 4, 6, 7 and 10: a live store, its log, and the ages of its sales."""

import unittest

from soldages.errors import NotThere
from soldages.exchanges import chain
from soldages.logs import ages_of, Log
from soldages.rules import choice_by
from soldages.spread import compared, is_transfers, transfers
from soldages.store import Store
from tests.values import all_small_logs, great_logs, numbers

RULES = ("oldest", "newest")
FAR = (-1, -2, -60, -(10 ** 30), 60, 10 ** 30, 10 ** 5000)


def state(store):
    """Return all that a store tells."""
    return [store.today, store.held, str(store.log()), store.ages(), store.best(), store.worst()]


def ages_by_selling(days, rule):
    """Return the ascending ages of the sales of days by a rule, unit by unit."""
    there, ages = [], []
    for day, (arrived, left) in enumerate(days):
        there += [day] * arrived
        for _ in range(left):
            came = min(there) if rule == "oldest" else max(there)
            there.remove(came)
            ages.append(day - came)
    return sorted(ages)


def played(log, sell):
    """Return a store in which what a log tells has happened, each unit sold by a function of the store."""
    store = Store()
    for day, (arrived, left) in enumerate(log.days):
        if day > 0:
            store.next_day()
        store.arrive(arrived)
        for _ in range(left):
            sell(store)
    return store


class Plain:
    """What a store should be, told by plain lists."""

    def __init__(self):
        self.days, self.there, self.ages = [(0, 0)], [], []

    def arrive(self, count):
        self.there += [len(self.days) - 1] * count
        self.days[-1] = (self.days[-1][0] + count, self.days[-1][1])

    def sell(self, day_in):
        self.there.remove(day_in)
        self.days[-1] = (self.days[-1][0], self.days[-1][1] + 1)
        self.ages.append(len(self.days) - 1 - day_in)
        return self.ages[-1]

    def copy(self):
        other = Plain()
        other.days, other.there, other.ages = list(self.days), list(self.there), list(self.ages)
        return other

    def state(self):
        return [
            len(self.days) - 1, tuple(sorted(self.there)), "\n".join(f"{came} {left}" for came, left in self.days),
            sorted(self.ages), ages_by_selling(self.days, "oldest"), ages_by_selling(self.days, "newest"),
        ]


class StoreTest(unittest.TestCase):
    def check_not_there(self, day, call, *values):
        with self.assertRaises(NotThere) as caught:
            call(*values)
        self.assertEqual(caught.exception.day, day)
        self.assertIs(type(caught.exception.day), int)

    def test_a_new_store(self):
        store = Store()
        self.assertEqual(state(store), [0, (), "0 0", [], [], []])
        self.assertEqual(store.log(), Log([(0, 0)]))
        self.assertIs(type(store.held), tuple)
        self.assertIs(type(store.log()), Log)

    def test_some_days(self):
        store = Store()
        self.assertIsNone(store.arrive(2))
        self.assertEqual(state(store), [0, (0, 0), "2 0", [], [], []])
        self.assertEqual(store.sell(0), 0)
        self.assertEqual(state(store), [0, (0,), "2 1", [0], [0], [0]])
        self.assertEqual(store.next_day(), 1)
        self.assertEqual(state(store), [1, (0,), "2 1\n0 0", [0], [0], [0]])
        self.assertIsNone(store.arrive(count=1))
        self.assertEqual(store.next_day(), 2)
        self.assertIsNone(store.arrive(2))
        self.assertEqual(store.held, (0, 1, 2, 2))
        self.assertEqual(store.sell(day_in=1), 1)
        self.assertEqual(state(store), [2, (0, 2, 2), "2 1\n1 0\n2 1", [0, 1], [0, 2], [0, 0]])
        self.assertEqual(store.sell(2), 0)
        self.assertEqual(state(store), [2, (0, 2), "2 1\n1 0\n2 2", [0, 0, 1], [0, 1, 2], [0, 0, 0]])

    def test_sales_by_both_rules(self):
        store = Store()
        for _ in range(3):
            store.arrive(1)
            store.next_day()
        self.assertEqual(store.sell_by("oldest"), 3)
        self.assertEqual(store.sell_by(rule="newest"), 1)
        self.assertEqual(store.held, (1,))
        self.assertEqual(store.sell_by("newest"), 2)
        self.assertEqual(state(store), [3, (), "1 0\n1 0\n1 0\n0 3", [1, 2, 3], [1, 2, 3], [1, 2, 3]])

    def test_units_that_come_behind_a_sale_of_the_day(self):
        store = Store()
        store.arrive(1)
        store.next_day()
        self.assertEqual(store.sell_by("newest"), 1)
        store.arrive(1)
        self.assertEqual(state(store), [1, (1,), "1 0\n1 1", [1], [1], [0]])
        store.arrive(2)
        self.assertEqual(store.sell_by("newest"), 0)
        self.assertEqual(state(store), [1, (1, 1), "1 0\n3 2", [0, 1], [0, 1], [0, 0]])

    def test_none_that_come(self):
        store = Store()
        store.arrive(0)
        self.assertEqual(state(store), [0, (), "0 0", [], [], []])
        store.arrive(1)
        store.arrive(0)
        self.assertEqual(state(store), [0, (0,), "1 0", [], [], []])
        self.check_not_there(1, store.sell, 1)

    def test_what_is_left_is_not_sold_by_the_closing(self):
        store = Store()
        store.arrive(3)
        store.next_day()
        store.arrive(1)
        self.assertEqual([store.ages(), store.best(), store.worst()], [[], [], []])
        store.sell(0)
        self.assertEqual([store.ages(), store.best(), store.worst()], [[1], [1], [0]])

    def test_not_there(self):
        store = Store()
        for call, values, day in (
            (store.sell, [0], 0), (store.sell, [1], 1), (store.sell_by, ["oldest"], 0), (store.sell_by, ["newest"], 0),
        ):
            self.check_not_there(day, call, *values)
            self.assertEqual(state(store), [0, (), "0 0", [], [], []])
        store.arrive(1)
        store.next_day()
        store.arrive(2)
        store.sell(0)
        store.next_day()
        kept = state(store)
        for day in (0, 2, 3, 59, *FAR):
            self.check_not_there(day, store.sell, day)
            self.assertEqual(state(store), kept)
        store.sell(1)
        store.sell(1)
        kept = state(store)
        for day in (0, 1, 2, 3, *FAR):
            self.check_not_there(day, store.sell, day)
        for rule in RULES:
            self.check_not_there(2, store.sell_by, rule)
        self.assertEqual(state(store), kept)
        self.assertEqual(store.next_day(), 3)
        self.check_not_there(3, store.sell_by, "newest")
        store.arrive(1)
        self.assertEqual(store.sell_by("newest"), 0)

    def test_sixty_days_and_forty_units(self):
        store = Store()
        for day in range(59):
            store.arrive(1 if day < 40 else 0)
            self.assertEqual(store.next_day(), day + 1)
        self.assertEqual((store.today, store.held), (59, tuple(range(40))))
        for day in range(40):
            self.assertEqual(store.sell_by("oldest"), 59 - day)
        ages = list(range(20, 60))
        log = Log([(1, 0)] * 40 + [(0, 0)] * 19 + [(0, 40)])
        self.assertEqual(state(store), [59, (), str(log), ages, ages, ages])
        store = Store()
        store.arrive(40)
        for _ in range(59):
            store.next_day()
        self.assertEqual(store.sell_by("newest"), 59)
        self.assertEqual((store.best(), store.worst()), ([59], [59]))

    def test_new_values_each_time(self):
        store = Store()
        store.arrive(2)
        store.sell(0)
        kept = state(store)
        log = store.log()
        for call in (store.ages, store.best, store.worst):
            found = call()
            self.assertIs(type(found), list)
            self.assertIsNot(found, call())
            found.append(9)
            found[0] = 7
        self.assertEqual(state(store), kept)
        held = store.held
        store.sell(0)
        store.arrive(1)
        store.next_day()
        self.assertEqual((held, log), ((0,), Log([(2, 1)])))

    def test_all_small_logs_by_both_rules(self):
        for log in all_small_logs() + great_logs():
            for rule in RULES:
                store = played(log, lambda one: one.sell_by(rule))
                self.assertEqual(store.log(), log)
                self.assertEqual(store.ages(), store.best() if rule == "oldest" else store.worst())
                for other, ages in zip(RULES, (store.best(), store.worst())):
                    self.assertEqual(ages, ages_by_selling(log.days, other))

    def test_logs_that_are_sold_out(self):
        for log in all_small_logs():
            if log.stock(len(log.days) - 1) == 0:
                store = played(log, lambda one: one.sell(one.held[-1]))
                self.assertEqual(store.best(), ages_of(choice_by(log, "oldest")))
                self.assertEqual(store.worst(), ages_of(choice_by(log, "newest")))


class DrawnTest(unittest.TestCase):
    def step(self, told, store, plain):
        """Do the same drawn thing to a store and to what it should be."""
        kind = next(told) % 8
        if kind < 2 and len(plain.days) < 60:
            plain.days.append((0, 0))
            self.assertEqual(store.next_day(), len(plain.days) - 1)
        elif kind < 5:
            count = min(next(told) % 4, 40 - sum(arrived for arrived, _ in plain.days))
            plain.arrive(count)
            self.assertIsNone(store.arrive(count))
        elif kind == 5:
            self.sell(next(told) % (len(plain.days) + 1), store, plain)
        else:
            self.sell_by(RULES[kind - 6], store, plain)

    def sell(self, day, store, plain):
        if day in plain.there:
            self.assertEqual(store.sell(day), plain.sell(day))
        else:
            with self.assertRaises(NotThere) as caught:
                store.sell(day)
            self.assertEqual(caught.exception.day, day)

    def sell_by(self, rule, store, plain):
        if plain.there:
            day = min(plain.there) if rule == "oldest" else max(plain.there)
            self.assertEqual(store.sell_by(rule), plain.sell(day))
        else:
            with self.assertRaises(NotThere) as caught:
                store.sell_by(rule)
            self.assertEqual(caught.exception.day, len(plain.days) - 1)

    def test_drawn_stores(self):
        for seed in range(60):
            told = numbers(seed)
            store, plain = Store(), Plain()
            for _ in range(100):
                self.step(told, store, plain)
                self.assertEqual(state(store), plain.state())
            while store.held:
                store.sell_by(RULES[next(told) % 2])
            self.check_between(store)

    def check_between(self, store):
        """What a store without units has sold is spread no less than the best and no more than the worst."""
        best, ages, worst = store.best(), store.ages(), store.worst()
        self.assertEqual([sum(best), sum(worst)], [sum(ages)] * 2)
        for low, high in ((best, ages), (ages, worst)):
            self.assertIn(compared(low, high), ("alike", "less"))
            self.assertTrue(is_transfers(low, high, transfers(low, high)))
        log = store.log()
        self.assertEqual(chain(log, choice_by(log, "newest"), "oldest")[-1], choice_by(log, "oldest"))

    def test_drawn_forks(self):
        for seed in range(30):
            told = numbers(seed)
            both = [(Store(), Plain())]
            for _ in range(80):
                at = next(told) % len(both)
                store, plain = both[at]
                if next(told) % 10 == 0 and len(both) < 8:
                    both.append((store.fork(), plain.copy()))
                else:
                    self.step(told, store, plain)
                for one, other in both:
                    self.assertEqual(state(one), other.state())
            self.assertGreater(len(both), 2)


class ForkTest(unittest.TestCase):
    def test_a_fork_is_in_the_same_state(self):
        store = Store()
        self.assertIs(type(store.fork()), Store)
        self.assertEqual(state(store.fork()), state(Store()))
        store.arrive(3)
        store.sell(0)
        store.next_day()
        store.arrive(1)
        store.sell(1)
        for one in (store.fork(), store.fork().fork()):
            self.assertIsNot(one, store)
            self.assertEqual(state(one), state(store))

    def test_forks_go_on_by_themselves(self):
        store = Store()
        store.arrive(2)
        fork = store.fork()
        last = fork.fork()
        kept = state(store)
        self.assertEqual(fork.sell(0), 0)
        fork.next_day()
        fork.arrive(3)
        self.assertEqual(state(store), kept)
        self.assertEqual(state(last), kept)
        self.assertEqual(state(fork), [1, (0, 1, 1, 1), "2 1\n3 0", [0], [0], [0]])
        store.arrive(1)
        self.assertEqual(state(store), [0, (0, 0, 0), "3 0", [], [], []])
        self.assertEqual(state(last), kept)
        self.assertEqual(last.next_day(), 1)
        self.assertEqual(last.sell_by("oldest"), 1)
        self.assertEqual([store.today, fork.today, last.today], [0, 1, 1])
        self.assertEqual([store.ages(), fork.ages(), last.ages()], [[], [0], [1]])

    def test_two_stores_share_nothing(self):
        one, other = Store(), Store()
        one.arrive(2)
        one.sell(0)
        one.next_day()
        self.assertEqual(state(other), [0, (), "0 0", [], [], []])


if __name__ == "__main__":
    unittest.main()
