"""Points 7 and 10: exchanges, their kinds, chains and paths."""

import unittest
from collections import Counter
from itertools import combinations_with_replacement, product

from soldages.exchanges import chain, exchanged, is_chain, kind_of, path
from soldages.logs import ages_of, is_choice, Log
from soldages.rules import choice_by
from soldages.spread import compared
from tests.values import ANY_VALUES, great_logs, logs_with_choices, some_choices

FOUR = Log([(2, 0), (1, 1), (0, 1), (1, 2)])
OLDEST = [(0, 1), (0, 2), (1, 3), (3, 3)]
BETWEEN = [(0, 1), (0, 3), (1, 2), (3, 3)]
NEWEST = [(0, 2), (0, 3), (1, 1), (3, 3)]


def exchanges_of(choice):
    """Return the tuples (first, second, kind, choice) of all exchanges that are allowed in a choice."""
    found = []
    for at, to in product(range(len(choice)), repeat=2):
        (i, o), (j, p) = choice[at], choice[to]
        if i < j and j <= o and j <= p:
            rest = [pair for place, pair in enumerate(choice) if place not in (at, to)]
            kind = "calming" if p < o else "stirring" if o < p else "none"
            found.append(((i, o), (j, p), kind, sorted(rest + [(i, p), (j, o)])))
    return found


def step_kind(before, after):
    """Return the kind of the exchange that makes one choice from another one, or None if none does."""
    gone = sorted((Counter(before) - Counter(after)).elements())
    come = sorted((Counter(after) - Counter(before)).elements())
    if len(gone) != 2:
        return None
    (i, o), (j, p) = gone
    if not (i < j and j <= o and j <= p) or come != sorted([(i, p), (j, o)]):
        return None
    return "calming" if p < o else "stirring"


class ExchangedTest(unittest.TestCase):
    def test_exchanges_in_either_order(self):
        self.assertEqual(exchanged(NEWEST, (0, 3), (1, 1)), OLDEST)
        self.assertEqual(exchanged(NEWEST, (1, 1), (0, 3)), OLDEST)
        self.assertEqual(exchanged(NEWEST, (0, 2), (1, 1)), BETWEEN)
        self.assertEqual(exchanged(choice=BETWEEN, first=(1, 2), second=(0, 1)), NEWEST)
        self.assertEqual(exchanged(BETWEEN, (0, 3), (3, 3)), BETWEEN)

    def test_one_of_several_equal_pairs(self):
        choice = [(0, 4), (0, 4), (1, 2), (1, 2), (1, 5)]
        self.assertEqual(exchanged(choice, (1, 2), (0, 4)), [(0, 2), (0, 4), (1, 2), (1, 4), (1, 5)])
        self.assertEqual(exchanged(choice, (0, 4), (1, 5)), [(0, 4), (0, 5), (1, 2), (1, 2), (1, 4)])

    def test_lists_tuples_and_new_lists(self):
        choice = list(NEWEST)
        found = exchanged(choice, (0, 3), (1, 1))
        self.assertIs(type(found), list)
        self.assertTrue(all(type(pair) is tuple for pair in found))
        found.append((9, 9))
        self.assertEqual(choice, NEWEST)
        self.assertEqual(exchanged(tuple(choice), (0, 3), (1, 1)), OLDEST)
        same = exchanged(choice, (0, 3), (3, 3))
        self.assertEqual(same, choice)
        self.assertIsNot(same, choice)

    def test_all_exchanges_of_small_choices(self):
        checked = 0
        for log, every in logs_with_choices():
            for choice in every:
                for first, second, kind, expected in exchanges_of(choice):
                    for one, other in ((first, second), (second, first)):
                        found = exchanged(choice, one, other)
                        self.assertEqual(found, expected)
                        self.assertIn(found, every)
                        self.assertEqual(kind_of(one, other), kind)
                    self.check_ages(choice, kind, expected)
                    checked += 1
        self.assertGreater(checked, 5000)

    def check_ages(self, choice, kind, after):
        words = {"calming": "less", "stirring": "more", "none": "alike"}
        self.assertEqual(compared(ages_of(after), ages_of(choice)), words[kind])


class KindTest(unittest.TestCase):
    def test_kinds_in_either_order(self):
        for first, second, kind in (
            ((0, 3), (1, 1), "calming"),
            ((0, 3), (1, 2), "calming"),
            ((0, 5), (2, 4), "calming"),
            ((0, 1), (1, 2), "stirring"),
            ((0, 1), (1, 3), "stirring"),
            ((0, 2), (2, 59), "stirring"),
            ((0, 2), (0, 3), "none"),
            ((0, 2), (0, 2), "none"),
            ((0, 3), (1, 3), "none"),
            ((0, 0), (1, 1), "none"),
            ((0, 0), (1, 3), "none"),
            ((0, 3), (4, 5), "none"),
            ((7, 7), (7, 7), "none"),
        ):
            self.assertEqual(kind_of(first, second), kind)
            self.assertEqual(kind_of(first=second, second=first), kind)

    def test_all_small_pairs(self):
        pairs = list(combinations_with_replacement(range(6), 2))
        seen = Counter()
        for first, second in product(pairs, repeat=2):
            kinds = [kind for _, _, kind, _ in exchanges_of([first, second])]
            expected = kinds[0] if kinds else "none"
            self.assertEqual(kind_of(first, second), expected)
            seen[expected] += 1
        self.assertEqual(sorted(seen), ["calming", "none", "stirring"])


class ChainTest(unittest.TestCase):
    def check_chain(self, log, choice, rule):
        kept = list(choice)
        found = chain(log, choice, rule)
        self.assertEqual(list(choice), kept)
        self.assertIs(type(found), list)
        self.assertTrue(all(is_choice(log, one) for one in found))
        self.assertEqual(found[0], kept)
        self.assertEqual(found[-1], choice_by(log, rule))
        wanted = "calming" if rule == "oldest" else "stirring"
        self.assertTrue(all(step_kind(*two) == wanted for two in zip(found, found[1:])))
        self.assertIs(is_chain(log, found), True)

    def test_chains(self):
        self.assertEqual(chain(log=FOUR, choice=BETWEEN, rule="oldest"), [BETWEEN, OLDEST])
        self.assertEqual(chain(FOUR, BETWEEN, "newest"), [BETWEEN, NEWEST])
        self.check_chain(FOUR, NEWEST, "oldest")
        self.check_chain(FOUR, OLDEST, "newest")

    def test_the_choice_by_the_rule_itself(self):
        self.assertEqual(chain(FOUR, OLDEST, "oldest"), [OLDEST])
        self.assertEqual(chain(FOUR, NEWEST, "newest"), [NEWEST])
        for log in great_logs():
            for rule in ("oldest", "newest"):
                self.assertEqual(chain(log, choice_by(log, rule), rule), [choice_by(log, rule)])

    def test_no_units(self):
        for rule in ("oldest", "newest"):
            self.assertEqual(chain(Log([(0, 0)] * 3), [], rule), [[]])

    def test_small_logs(self):
        for log, every in logs_with_choices():
            for choice in every:
                self.check_chain(log, choice, "oldest")
                self.check_chain(log, choice, "newest")

    def test_great_logs(self):
        for log in great_logs():
            for choice in some_choices(log):
                self.check_chain(log, choice, "oldest")
                self.check_chain(log, choice, "newest")

    def test_lists_tuples_and_new_lists(self):
        self.check_chain(FOUR, tuple(NEWEST), "oldest")
        log = Log([(1, 0)] * 4 + [(0, 1)] * 4)
        newest = choice_by(log, "newest")
        choice = list(newest)
        found = chain(log, choice, "oldest")
        self.assertGreater(len(found), 2)
        self.assertTrue(all(type(one) is list for one in found))
        self.assertEqual(len({id(one) for one in found}), len(found))
        kept = [list(one) for one in found]
        found[0].append((9, 9))
        found[-1].clear()
        self.assertEqual(choice, newest)
        self.assertEqual(found[1:-1], kept[1:-1])
        self.assertEqual(chain(log, choice, "oldest"), kept)


class PathTest(unittest.TestCase):
    def check_path(self, log, first, second):
        kept = [list(first), list(second)]
        found = path(log, first, second)
        self.assertEqual([list(first), list(second)], kept)
        self.assertIs(type(found), list)
        self.assertEqual([found[0], found[-1]], kept)
        self.assertTrue(all(is_choice(log, one) for one in found))
        self.assertTrue(all(step_kind(*two) is not None for two in zip(found, found[1:])))
        self.assertIs(is_chain(log, found), True)

    def test_paths(self):
        for first, second in product((OLDEST, BETWEEN, NEWEST), repeat=2):
            self.check_path(FOUR, first, second)
            self.check_path(FOUR, tuple(first), tuple(second))
        self.assertEqual(path(log=FOUR, first=OLDEST, second=BETWEEN)[-1], BETWEEN)
        self.check_path(Log([(0, 0)]), [], [])

    def test_small_logs(self):
        for log, every in logs_with_choices():
            for first, second in product(every[:20], every[-20:]):
                self.check_path(log, first, second)

    def test_great_logs(self):
        for log in great_logs():
            every = some_choices(log)
            for first, second in product(every, repeat=2):
                self.check_path(log, first, second)

    def test_new_lists(self):
        choice = list(BETWEEN)
        for found in (path(FOUR, choice, choice), path(FOUR, choice, OLDEST), path(FOUR, OLDEST, choice)):
            kept = [list(one) for one in found[1:-1]]
            found[0].append((9, 9))
            found[-1].append((9, 9))
            self.assertEqual(found[1:-1], kept)
            self.assertEqual(choice, BETWEEN)
        self.assertEqual(OLDEST, choice_by(FOUR, "oldest"))


class IsChainTest(unittest.TestCase):
    def test_chains(self):
        for value in (
            [OLDEST],
            [BETWEEN],
            [NEWEST, OLDEST],
            [OLDEST, NEWEST],
            [OLDEST, BETWEEN, NEWEST],
            [OLDEST, BETWEEN, OLDEST],
            [BETWEEN, NEWEST, OLDEST, BETWEEN, OLDEST, NEWEST],
        ):
            self.assertIs(is_chain(FOUR, value), True)
        self.assertIs(is_chain(log=Log([(0, 0)]), value=[[]]), True)
        self.assertIs(is_chain(Log([(1, 0)]), [[(0, 0)]]), True)

    def test_values_that_are_no_chains(self):
        for value in (
            [],
            [OLDEST, OLDEST],
            [NEWEST, OLDEST, OLDEST],
            [OLDEST, BETWEEN, BETWEEN, NEWEST],
            [OLDEST, []],
            [[], OLDEST],
            [OLDEST, BETWEEN[:-1]],
            [OLDEST[::-1]],
            [NEWEST, [(0, 2), (0, 1), (1, 3), (3, 3)]],
            [[(0, 3), (0, 3), (1, 1), (3, 2)]],
            [[(0, 1), (0, 3), (1, 2), (3, 4)]],
            [OLDEST, None],
            [OLDEST, True],
            OLDEST,
            [[OLDEST]],
            {0: OLDEST},
        ):
            self.assertIs(is_chain(FOUR, value), False)

    def test_kinds_of_values(self):
        for value in (
            (OLDEST,),
            (OLDEST, BETWEEN),
            [tuple(OLDEST)],
            [OLDEST, tuple(BETWEEN)],
            [tuple(OLDEST), BETWEEN],
            [[list(pair) for pair in OLDEST]],
            [OLDEST, [(0, 1), (0, 3), [1, 2], (3, 3)]],
            [[(0, True), (0, 2), (1, 3), (3, 3)]],
            [[(False, 1), (0, 2), (1, 3), (3, 3)]],
            [OLDEST, [(0, 1), (0, 3), (True, 2), (3, 3)]],
            [[(0, 1), (0, 2), (1, 3), (3, "3")]],
            [[(0, 1), (0, 2), (1, 3), (3, 3, 3)]],
            str([OLDEST]),
        ):
            self.assertIs(is_chain(FOUR, value), False)
        for log in (FOUR, Log([(1, 0)]), Log([(0, 0)])):
            for value in ANY_VALUES:
                expected = log.days == ((0, 0),) and value == [[]]
                self.assertIs(is_chain(log, value), expected)
                self.assertIs(is_chain(log, [value]), log.days == ((0, 0),) and value == [] and type(value) is list)

    def test_no_units(self):
        log = Log([(0, 0)] * 2)
        for value in ([], [[], []], ([],), [()], []):
            self.assertIs(is_chain(log, value), False)
        self.assertIs(is_chain(log, [[]]), True)

    def test_two_exchanges_in_one_step(self):
        log = Log([(1, 0)] * 4 + [(0, 1)] * 4)
        first = [(0, 4), (1, 5), (2, 6), (3, 7)]
        middle = [(0, 5), (1, 4), (2, 6), (3, 7)]
        last = [(0, 5), (1, 4), (2, 7), (3, 6)]
        turned = [(0, 5), (1, 6), (2, 4), (3, 7)]
        self.assertIs(is_chain(log, [first, middle, last]), True)
        self.assertIs(is_chain(log, [first, last]), False)
        self.assertIs(is_chain(log, [first, turned]), False)
        self.assertIs(is_chain(log, [first, middle, turned]), True)

    def test_all_pairs_of_small_choices(self):
        for log, every in logs_with_choices():
            for first in every[:40]:
                made = [after for _, _, kind, after in exchanges_of(first) if kind != "none"]
                for second in every[-40:]:
                    self.assertIs(is_chain(log, [first, second]), second in made)

    def test_one_choice_left_out(self):
        log = Log([(1, 0)] * 20 + [(0, 1)] * 20)
        found = chain(log, choice_by(log, "newest"), "oldest")
        self.assertIs(is_chain(log, found), True)
        for place in range(1, len(found) - 1):
            told = found[:place] + found[place + 1:]
            expected = step_kind(found[place - 1], found[place + 1]) is not None
            self.assertIs(is_chain(log, told), expected)
            self.assertIs(is_chain(log, found[:place] + [found[place]] + found[place:]), False)
        self.assertIs(is_chain(log, found[1:]), True)
        self.assertIs(is_chain(log, found[::-1]), True)

    def test_value_is_not_changed(self):
        value = [list(NEWEST), list(OLDEST)]
        is_chain(FOUR, value)
        self.assertEqual(value, [NEWEST, OLDEST])


if __name__ == "__main__":
    unittest.main()
