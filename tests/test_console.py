"""Points 4 to 12 by the rows of a console."""

import unittest

from soldages.console import Console
from soldages.errors import InvalidRow, InvalidText, NotLawful, UnknownName
from soldages.logs import ages_of, Log
from soldages.pairs import is_possible
from soldages.rules import choice_by
from soldages.thresholds import bounds
from tests.values import all_small_logs, great_logs

FOUR = "2 0\n1 1\n0 1\n1 2"
LONG = "9" * 9000


class ConsoleCase(unittest.TestCase):
    def setUp(self):
        self.console = Console()
        self.assertEqual(self.console.answer("log a\n" + FOUR), "ok")

    def state(self):
        """Return all that the console tells of its logs."""
        names = self.console.answer("names")
        return [names] + [self.console.answer("show " + name) for name in names.split(" ")]

    def check(self, error, row, attribute, expected):
        kept = self.state()
        with self.assertRaises(error) as caught:
            self.console.answer(row)
        self.assertIs(type(caught.exception), error)
        self.assertEqual(vars(caught.exception), {attribute: expected})
        self.assertEqual(self.state(), kept)

    def check_invalid(self, row):
        self.check(InvalidRow, row, "row", row)


class AnswerTest(ConsoleCase):
    def test_log(self):
        self.assertEqual(self.console.answer("log b\n0 0"), "ok")
        self.assertEqual(self.console.answer(row="log abcdefgh\n40 0\n0 40"), "ok")
        self.assertEqual(self.console.answer("show b"), "0 0")
        self.assertEqual(self.console.answer("show abcdefgh"), "40 0\n0 40")

    def test_a_log_is_replaced(self):
        self.assertEqual(self.console.answer("log b\n0 0"), "ok")
        self.assertEqual(self.console.answer("log a\n3 1\n0 1"), "ok")
        self.assertEqual(self.state(), ["a b", "3 1\n0 1", "0 0"])
        self.assertEqual(self.console.answer("ages a oldest"), "0 1 1")
        self.assertEqual(self.console.answer("can a 1 3"), "no")

    def test_names(self):
        self.assertEqual(Console().answer("names"), "none")
        self.assertEqual(self.console.answer("names"), "a")
        for name in ("z", "b", "zz", "ab", "aa", "abcdefgh", "b"):
            self.console.answer(f"log {name}\n0 0")
        self.assertEqual(self.console.answer("names"), "a aa ab abcdefgh b z zz")

    def test_words_of_the_console_as_names(self):
        for name in ("log", "names", "show", "ages", "old", "can", "none", "oldest", "newest"):
            self.assertEqual(self.console.answer(f"log {name}\n1 0\n0 1"), "ok")
            self.assertEqual(self.console.answer(f"show {name}"), "1 0\n0 1")
            self.assertEqual(self.console.answer(f"ages {name} oldest"), "1")
            self.assertEqual(self.console.answer(f"old {name} 1"), "1 1")
            self.assertEqual(self.console.answer(f"can {name} 0 1"), "yes")
        self.assertEqual(self.console.answer("names"), "a ages can log names newest none old oldest show")

    def test_show(self):
        self.assertEqual(self.console.answer("show a"), FOUR)

    def test_ages(self):
        self.assertEqual(self.console.answer("ages a oldest"), "0 1 2 2")
        self.assertEqual(self.console.answer("ages a newest"), "0 0 2 3")
        self.console.answer("log b\n0 0\n0 0")
        for rule in ("oldest", "newest"):
            self.assertEqual(self.console.answer(f"ages b {rule}"), "none")
        self.console.answer("log c\n12 1\n" + "0 0\n" * 9 + "0 0")
        self.assertEqual(self.console.answer("ages c oldest"), "0" + " 10" * 11)

    def test_old(self):
        told = [self.console.answer(f"old a {level}") for level in (0, 1, 2, 3, 4, 999999)]
        self.assertEqual(told, ["4 4", "2 3", "1 2", "0 1", "0 0", "0 0"])
        self.console.answer("log b\n0 0")
        self.assertEqual(self.console.answer("old b 0"), "0 0")
        self.console.answer("log c\n40 0\n0 0")
        self.assertEqual(self.console.answer("old c 1"), "40 40")

    def test_can(self):
        told = {(came, left): self.console.answer(f"can a {came} {left}") for came in range(6) for left in range(6)}
        possible = [pair for pair, word in told.items() if word == "yes"]
        self.assertEqual(possible, [(0, 1), (0, 2), (0, 3), (1, 1), (1, 2), (1, 3), (3, 3)])
        self.assertEqual(sorted(set(told.values())), ["no", "yes"])
        for came, left in ((1, 0), (0, 10), (10, 11), (60, 60), (999999, 999999), (0, 123456)):
            self.assertEqual(self.console.answer(f"can a {came} {left}"), "no")

    def test_answers_about_many_logs(self):
        for log in all_small_logs()[::7] + great_logs():
            self.assertEqual(self.console.answer(f"log x\n{log}"), "ok")
            self.assertEqual(self.console.answer("show x"), str(log))
            for rule in ("oldest", "newest"):
                ages = " ".join(str(age) for age in ages_of(choice_by(log, rule))) or "none"
                self.assertEqual(self.console.answer(f"ages x {rule}"), ages)
            days = len(log.days)
            for level in (0, 1, 2, days - 1, days, 777777):
                self.assertEqual(self.console.answer(f"old x {level}"), "{} {}".format(*bounds(log, level)))
            for came, left in ((0, 0), (0, 1), (1, days - 1), (0, days - 1), (days, days)):
                expected = "yes" if is_possible(log, came, left) else "no"
                self.assertEqual(self.console.answer(f"can x {came} {left}"), expected)

    def test_answers_are_texts(self):
        for row in ("log b\n0 0", "names", "show a", "ages a oldest", "ages b oldest", "old a 1", "can a 0 0"):
            self.assertIs(type(self.console.answer(row)), str)


class InvalidRowTest(ConsoleCase):
    forms = ["names", "show a", "ages a oldest", "old a 2", "can a 1 3", "log a"]

    def test_no_words_of_the_console(self):
        for row in ("", " ", "  ", "\n", "\n\n", "a", "help", "name", "namess", "nam", "shows a", "log", "show", "ages",
                    "old", "can", "age a oldest", "a show", "quit", "~", "2 0", FOUR, "ok", "none", "logs a\n0 0"):
            self.check_invalid(row)

    def test_spaces(self):
        for form in self.forms:
            for tail in ("", "\n", "\n0 0", "\n" + FOUR):
                self.check_invalid(" " + form + tail)
                self.check_invalid(form + " " + tail)
                self.check_invalid("  " + form + tail)
                self.check_invalid(form + "  " + tail)
                if " " in form:
                    self.check_invalid(form.replace(" ", "  ") + tail)
                    self.check_invalid(form.replace(" ", "  ", 1) + tail)
                    self.check_invalid(form.replace(" ", "") + tail)

    def test_newlines_where_none_belong(self):
        for form in self.forms[:-1]:
            for row in (form + "\n", "\n" + form, form + "\n" + FOUR, form + "\n0 0", "\n" + form + "\n"):
                self.check_invalid(row)
            if " " in form:
                self.check_invalid(form.replace(" ", "\n", 1))
        for row in ("log a", "log\na", "log\na\n0 0", "\nlog a\n0 0", "log\n a\n0 0", "log \na\n0 0", "l\nog a\n0 0"):
            self.check_invalid(row)

    def test_words_too_many_or_too_few(self):
        for row in ("names a", "names names", "show a a", "show a b", "ages a", "ages oldest", "ages a oldest newest",
                    "ages a oldest 1", "old a", "old 2", "old a 2 3", "can a", "can a 1", "can 1 3", "can a 1 3 4",
                    "log a a\n0 0", "log a 0\n0 0", "log\n0 0", "log a 0 0", "log a b", "names\nnames"):
            self.check_invalid(row)

    def test_capitals(self):
        for row in ("Names", "NAMES", "Show a", "SHOW a", "show A", "ages a Oldest", "ages a NEWEST", "Ages a oldest",
                    "ages A oldest", "Old a 2", "old A 2", "Can a 1 3", "can A 1 3", "Log a\n0 0", "LOG a\n0 0",
                    "log A\n0 0", "log aB\n0 0", "log Ab\n0 0"):
            self.check_invalid(row)

    def test_names_of_the_wrong_form(self):
        for name in ("abcdefghi", "aaaaaaaaa", "a1", "1", "1a", "a_b", "_", "a-b", "a.b", "a'", "*", "a" * 9000, "a\\n",
                     "~", "a,"):
            self.check_invalid(f"show {name}")
            self.check_invalid(f"ages {name} oldest")
            self.check_invalid(f"old {name} 1")
            self.check_invalid(f"can {name} 1 1")
            self.check_invalid(f"log {name}\n0 0")
        for row in ("show ", "ages  oldest", "old  1", "can  1 1", "log \n0 0", "log\n0 0"):
            self.check_invalid(row)

    def test_rules_of_the_wrong_form(self):
        for rule in ("old", "new", "oldest,", "oldestnewest", "latest", "none", "1", "a", "oldest\n", "ldest", "~"):
            self.check_invalid(f"ages a {rule}")

    def test_numbers_of_the_wrong_form(self):
        for number in (
            "00", "01", "007", "000000", "0000000", "+1", "-1", "-0", "+0", "1_0", "1_000", "_1", "1_", "1.0", "1e2",
            "0x1", "a", "one", "1000000", "1234567", "0000001", "9999999", LONG, "0" + LONG, "0" * 9000, "-" + LONG,
            "1,0", "(1)", "1a", "~",
        ):
            self.check_invalid(f"old a {number}")
            self.check_invalid(f"can a {number} 1")
            self.check_invalid(f"can a 1 {number}")
            self.check_invalid(f"can a {number} {number}")
        self.check_invalid(f"old a {LONG}{LONG}{LONG}")

    def test_numbers_of_the_form(self):
        for number in ("0", "1", "9", "10", "100000", "999999", "123456"):
            self.assertEqual(self.console.answer(f"can a {number} {number}"), "yes" if number == "1" else "no")
            self.assertEqual(len(self.console.answer(f"old a {number}").split(" ")), 2)

    def test_invalid_row_comes_ahead_of_unknown_name(self):
        for row in ("show b ", "ages b old", "old b 01", "old b 1000000", "can b 1", "can b 1 -1", "show b\n", "ages b",
                    "old b 1\n0 0"):
            self.check_invalid(row)


class UnknownNameTest(ConsoleCase):
    def test_unknown_names(self):
        rows = ["show {}", "ages {} oldest", "ages {} newest", "old {} 2", "old {} 999999", "can {} 1 3", "can {} 0 0"]
        for name in ("b", "aa", "abcdefgh", "names", "log"):
            for row in rows:
                self.check(UnknownName, row.format(name), "name", name)

    def test_no_logs(self):
        console = Console()
        with self.assertRaises(UnknownName) as caught:
            console.answer("show a")
        self.assertEqual(caught.exception.name, "a")
        self.assertEqual(console.answer("names"), "none")


class ParseTest(ConsoleCase):
    def test_invalid_texts(self):
        for name in ("a", "b"):
            for text, row in (
                ("", 0), ("\n", 0), ("x", 0), (" 0 0", 0), ("0 0\n", 1), ("1 0\n\n0 1", 1), ("1 0\n0 01", 1),
                ("41 0", 0), ("20 0\n20 0\n1 0", 2), ("\n".join(["0 0"] * 61), 60), (f"1 1\n{LONG} 0", 1),
                ("0 5\nx", 1), ("log b\n0 0", 0), ("1 0\nnames", 1), ("0 0 ", 0), ("0  0", 0), (f"1 0\n0 0{LONG}", 1),
            ):
                self.check(InvalidText, f"log {name}\n{text}", "row", row)

    def test_unlawful_texts(self):
        texts = [("0 1", 0), ("1 0\n0 2", 1), ("1 1\n1 1\n0 1\n5 0", 2), (f"3 0\n0 {LONG}", 1), ("40 41", 0)]
        for name in ("a", "b"):
            for text, day in texts:
                self.check(NotLawful, f"log {name}\n{text}", "day", day)

    def test_no_logs_behind_an_error(self):
        console = Console()
        for row, error in (("log b\n0 1", NotLawful), ("log b\n", InvalidText), ("log b", InvalidRow)):
            with self.assertRaises(error):
                console.answer(row)
            self.assertEqual(console.answer("names"), "none")
            with self.assertRaises(UnknownName):
                console.answer("show b")


class TwoConsolesTest(unittest.TestCase):
    def test_two_consoles_share_nothing(self):
        one, other = Console(), Console()
        one.answer("log a\n1 0")
        self.assertEqual(other.answer("names"), "none")
        other.answer("log a\n2 0")
        other.answer("log b\n3 0")
        self.assertEqual([one.answer("names"), one.answer("show a")], ["a", "1 0"])
        self.assertEqual([other.answer("names"), other.answer("show a")], ["a b", "2 0"])
        self.assertEqual(Console().answer("names"), "none")


if __name__ == "__main__":
    unittest.main()
