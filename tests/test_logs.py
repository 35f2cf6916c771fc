"""Points 4 to 6: logs, their text form, and which values are choices."""

import unittest

from soldages.errors import InvalidText, NotLawful
from soldages.logs import ages_of, is_choice, Log
from tests.values import all_small_logs, ANY_VALUES

LONG = "9" * 9000


class LogTest(unittest.TestCase):
    def check_unlawful(self, days, day):
        with self.assertRaises(NotLawful) as caught:
            Log(days)
        self.assertEqual(caught.exception.day, day)

    def test_document_log(self):
        log = Log([(3, 1), (0, 1), (2, 2)])
        self.assertEqual(log.days, ((3, 1), (0, 1), (2, 2)))
        self.assertEqual(log.days_in, (0, 0, 0, 2, 2))
        self.assertEqual(log.days_out, (0, 1, 2, 2, 2))
        self.assertEqual([log.stock(day) for day in range(3)], [2, 1, 1])

    def test_first_unlawful_day_is_told(self):
        self.check_unlawful([(0, 1)], 0)
        self.check_unlawful([(2, 3)], 0)
        self.check_unlawful([(1, 0), (0, 2)], 1)
        self.check_unlawful([(1, 1), (0, 0), (0, 1), (5, 0)], 2)
        self.check_unlawful([(1, 0), (0, 1), (0, 1), (0, 1)], 2)
        self.check_unlawful([(0, 0)] * 59 + [(1, 2)], 59)
        self.check_unlawful([(1, 10 ** 5000)], 0)

    def test_units_may_leave_on_the_day_of_arrival(self):
        log = Log([(2, 2), (0, 0), (1, 1)])
        self.assertEqual((log.days_in, log.days_out), ((0, 0, 2), (0, 0, 2)))
        self.assertEqual([log.stock(day) for day in range(3)], [0, 0, 0])

    def test_an_earlier_stock_may_leave(self):
        self.assertEqual(Log([(2, 0), (0, 2)]).days_out, (1, 1))

    def test_one_day(self):
        log = Log([(3, 1)])
        self.assertEqual((log.days_in, log.days_out, log.stock(0)), ((0, 0, 0), (0, 0, 0), 2))

    def test_sixty_days(self):
        log = Log([(1, 0)] * 20 + [(0, 1)] * 10 + [(0, 0)] * 30)
        self.assertEqual(log.days_in, tuple(range(20)))
        self.assertEqual(log.days_out, tuple(range(20, 30)) + (59,) * 10)
        self.assertEqual([log.stock(19), log.stock(24), log.stock(59)], [20, 15, 10])

    def test_no_units(self):
        for days in ([(0, 0)], [(0, 0)] * 60):
            log = Log(days)
            self.assertEqual((log.days_in, log.days_out), ((), ()))
            self.assertEqual([log.stock(0), log.stock(len(days) - 1)], [0, 0])

    def test_forty_units(self):
        log = Log([(25, 0), (15, 30)])
        self.assertEqual(log.days_in, (0,) * 25 + (1,) * 15)
        self.assertEqual(log.days_out, (1,) * 40)
        self.assertEqual(log.stock(1), 10)

    def test_somewhat_beyond_the_bounds(self):
        log = Log([(1, 1)] * 61)
        self.assertEqual(log.days_out, tuple(range(61)))
        self.assertEqual(len(Log([(41, 0)]).days_out), 41)
        self.assertEqual(Log([]).days_out, ())

    def test_units_left_leave_by_the_closing(self):
        log = Log([(4, 1), (0, 0), (0, 1)])
        self.assertEqual(log.days_out, (0, 2, 2, 2))
        self.assertEqual(log.stock(2), 2)

    def test_lists_tuples_and_copies(self):
        days = [(2, 0), (1, 1)]
        log = Log(days)
        same = Log(days=tuple(days))
        days[0] = (9, 9)
        days.append((1, 1))
        for one in (log, same):
            self.assertEqual(one.days, ((2, 0), (1, 1)))
            self.assertIs(type(one.days), tuple)
            self.assertTrue(all(type(day) is tuple for day in one.days))
            self.assertEqual((one.days_in, one.days_out), ((0, 0, 1), (1, 1, 1)))
            self.assertIs(type(one.days_in), tuple)
            self.assertIs(type(one.days_out), tuple)
            self.assertEqual([one.stock(0), one.stock(day=1)], [2, 2])
            self.assertEqual(str(one), "2 0\n1 1")

    def test_arguments_are_not_changed(self):
        days = [(2, 0), (1, 1)]
        Log(days)
        self.assertEqual(days, [(2, 0), (1, 1)])

    def test_equality(self):
        log = Log([(2, 0), (1, 1)])
        self.assertTrue(log == Log(((2, 0), (1, 1))))
        self.assertFalse(log != Log.parse("2 0\n1 1"))
        for other in (Log([(2, 0), (1, 0)]), Log([(2, 0)]), Log([(2, 0), (1, 1), (0, 0)]), Log([(2, 1), (1, 0)])):
            self.assertFalse(log == other)
            self.assertTrue(log != other)

    def test_a_log_equals_no_other_kind_of_value(self):
        log = Log([(2, 0), (1, 1)])
        for other in ["2 0\n1 1", ((2, 0), (1, 1)), [(2, 0), (1, 1)], [log], (log,), log.days_in, *ANY_VALUES]:
            self.assertIs(log == other, False)
            self.assertIs(log != other, True)
            self.assertIs(other == log, False)

    def test_small_logs_by_counting(self):
        for log in all_small_logs():
            arrived = [day[0] for day in log.days]
            left = [day[1] for day in log.days]
            last = len(log.days) - 1
            for day in range(last + 1):
                stock = sum(arrived[:day + 1]) - sum(left[:day + 1])
                self.assertEqual(log.stock(day), stock)
                self.assertEqual(log.days_in.count(day), arrived[day])
                closing = sum(arrived) - sum(left) if day == last else 0
                self.assertEqual(log.days_out.count(day), left[day] + closing)
            self.assertEqual(list(log.days_in), sorted(log.days_in))
            self.assertEqual(list(log.days_out), sorted(log.days_out))
            self.assertEqual(len(log.days_in), len(log.days_out))


class TextTest(unittest.TestCase):
    def check_invalid(self, text, row):
        with self.assertRaises(InvalidText) as caught:
            Log.parse(text)
        self.assertEqual(caught.exception.row, row)

    def check_unlawful(self, text, day):
        with self.assertRaises(NotLawful) as caught:
            Log.parse(text)
        self.assertEqual(caught.exception.day, day)

    def test_text_and_log_are_the_same(self):
        text = "3 1\n0 1\n2 2"
        log = Log.parse(text)
        self.assertEqual(log.days, ((3, 1), (0, 1), (2, 2)))
        self.assertEqual(str(log), text)
        self.assertEqual(Log.parse(text=text), log)
        for log in [*all_small_logs(), Log([(40, 0), (0, 40)]), Log([(0, 0)] * 60), Log([(10, 10)] * 4)]:
            self.assertTrue(Log.parse(str(log)) == log)
            self.assertEqual(str(Log.parse(str(log))), str(log))

    def test_rows_that_are_not_of_the_form(self):
        rows = [
            "", " ", "1", "1 ", " 1", " 1 0", "1 0 ", "1  0", "1 0 0", "1 0 1 0", "10", "1,0", "1\t0", "a b", "1 x", "x 1",
            "+1 0", "1 +0", "-1 0", "1 -0", "-0 0", "01 0", "1 00", "1 01", "00 0", "1_0 0", "1 1_0", "1.0 0", "1 0.0",
            "1e0 0", "0x1 0", "(1, 0)", "1 0;", "1 'a'", "~ ~", "01 x", "1 0\r", "1 _", "1 \u0661", "\u00b2 1",
        ]
        for row in rows:
            self.check_invalid(row, 0)
            self.check_invalid("1 0\n" + row, 1)
            self.check_invalid("1 0\n0 1\n" + row + "\n1 1", 2)

    def test_empty_texts_and_newlines(self):
        self.check_invalid("", 0)
        self.check_invalid("\n", 0)
        self.check_invalid("1 0\n", 1)
        self.check_invalid("\n1 0", 0)
        self.check_invalid("1 0\n\n0 1", 1)
        self.check_invalid("1 0\n0 1\n\n", 2)

    def test_the_first_wrong_row_is_told(self):
        self.check_invalid("1 0\nx\n41 0\ny", 1)
        self.check_invalid("1 0\n41 0\nx", 1)

    def test_zero_and_two_digits_are_of_the_form(self):
        self.assertEqual(Log.parse("0 0").days, ((0, 0),))
        self.assertEqual(Log.parse("40 0\n0 10\n0 30").days, ((40, 0), (0, 10), (0, 30)))

    def test_more_than_forty_units(self):
        self.assertEqual(len(Log.parse("40 0").days_in), 40)
        self.assertEqual(len(Log.parse("30 30\n10 10\n0 0").days_in), 40)
        self.check_invalid("41 0", 0)
        self.check_invalid("100 0", 0)
        self.check_invalid("1000 0", 0)
        self.check_invalid("40 40\n0 0\n1 0\n1 0", 2)
        self.check_invalid("20 20\n20 20\n20 20", 2)

    def test_the_sixty_first_row(self):
        self.assertEqual(len(Log.parse("\n".join(["0 0"] * 60)).days), 60)
        self.check_invalid("\n".join(["0 0"] * 61), 60)
        self.check_invalid("\n".join(["0 0"] * 62), 60)
        self.check_invalid("\n".join(["0 0"] * 60 + [""]), 60)
        self.check_invalid("\n".join(["0 0"] * 60 + ["x", "41 0"]), 60)
        self.check_invalid("\n".join(["0 0"] * 59 + ["x", "0 0"]), 59)
        self.check_invalid("\n".join(["0 0"] * 59 + ["41 0", "0 0"]), 59)

    def test_numbers_of_thousands_of_digits(self):
        self.check_invalid(f"{LONG} 0", 0)
        self.check_invalid(f"1 1\n{LONG} {LONG}", 1)
        self.check_invalid("1" + "0" * 9000 + " 0", 0)
        self.check_invalid(f"0{LONG} 0", 0)
        self.check_invalid(f"0 0{LONG}", 0)
        self.check_invalid(f"0 {LONG}x", 0)
        self.check_invalid(f"0 {LONG}\nx", 1)
        self.check_unlawful(f"0 {LONG}", 0)
        self.check_unlawful("40 1" + "0" * 9000, 0)
        self.check_unlawful(f"3 1\n0 {LONG}\n0 {LONG}", 1)

    def test_not_lawful(self):
        self.check_unlawful("0 1", 0)
        self.check_unlawful("40 41", 0)
        self.check_unlawful("40 100", 0)
        self.check_unlawful("40 1000", 0)
        self.check_unlawful("1 0\n0 2\n5 0", 1)
        self.check_unlawful("\n".join(["1 1"] * 30 + ["0 0"] * 29 + ["0 1"]), 59)

    def test_invalid_text_comes_ahead_of_not_lawful(self):
        self.check_invalid("0 1\nx", 1)
        self.check_invalid("0 1\n", 1)
        self.check_invalid("0 5\n1 0\n40 0", 2)
        self.check_invalid("41 50", 0)
        self.check_invalid("\n".join(["0 1"] * 61), 60)

    def test_parse_of_a_subclass(self):
        class Kept(Log):
            pass

        self.assertIs(type(Kept.parse("1 0")), Kept)


class ChoiceTest(unittest.TestCase):
    log = Log([(2, 0), (1, 1), (0, 1), (1, 2)])
    choice = [(0, 1), (0, 3), (1, 2), (3, 3)]

    def test_choices(self):
        for value in (
            self.choice,
            [(0, 1), (0, 2), (1, 3), (3, 3)],
            [(0, 2), (0, 3), (1, 1), (3, 3)],
        ):
            self.assertIs(is_choice(self.log, value), True)
        self.assertIs(is_choice(log=Log([(0, 0)]), value=[]), True)
        self.assertIs(is_choice(Log([(3, 1)]), [(0, 0), (0, 0), (0, 0)]), True)

    def test_any_values_are_no_choices(self):
        for log in (self.log, Log([(1, 0)]), Log([(0, 0), (2, 2)])):
            for value in ANY_VALUES:
                self.assertIs(is_choice(log, value), False)
        for value in ANY_VALUES:
            self.assertIs(is_choice(Log([(0, 0)]), value), False)
        self.assertIs(is_choice(Log([(1, 0)]), [(0, 0)]), True)

    def test_kinds_of_values(self):
        for value in (
            [(False, True), (0, 3), (1, 2), (3, 3)],
            [(0, 1), (0, 3), (True, 2), (3, 3)],
            [(0, True), (0, 3), (1, 2), (3, 3)],
            [(False, 1), (0, 3), (1, 2), (3, 3)],
            [[0, 1], [0, 3], [1, 2], [3, 3]],
            [(0, 1), (0, 3), (1, 2), [3, 3]],
            [(0, 1), (0, 3), (1, 2), (3, "3")],
            [(0, 1), (0, 3), (1, 2), (3, None)],
            [(0, 1), (0, 3), (1, 2), (3, 3, 3)],
            [(0, 1), (0, 3), (1, 2), (3,)],
            [(0, 1), (0, 3), (1, 2), 3],
            [(0, 1), (0, 3), (1, 2), "33"],
            tuple(self.choice),
            {pair: True for pair in self.choice},
            [self.choice],
            str(self.choice),
        ):
            self.assertIs(is_choice(self.log, value), False)

    def test_order_and_numbers_of_pairs(self):
        for value in (
            [(0, 3), (0, 1), (1, 2), (3, 3)],
            self.choice[::-1],
            [(0, 1), (0, 3), (3, 3), (1, 2)],
            self.choice[:3],
            self.choice[1:],
            self.choice + [(3, 3)],
            [(0, 1)] + self.choice,
            [(0, 1), (0, 1), (1, 2), (3, 3)],
            [(0, 1), (0, 2), (1, 2), (3, 3)],
            [(0, 1), (1, 2), (1, 3), (3, 3)],
            [(0, 1), (0, 2), (1, 3), (2, 3)],
            [(0, 1), (0, 3), (1, 2), (3, 4)],
            [(-1, 1), (0, 3), (1, 2), (3, 3)],
            [(0, 1), (0, 3), (1, 2), (3, 10 ** 5000)],
            [],
        ):
            self.assertIs(is_choice(self.log, value), False)

    def test_no_unit_leaves_before_it_came(self):
        self.assertIs(is_choice(self.log, [(0, 3), (0, 3), (1, 1), (3, 2)]), False)
        self.assertIs(is_choice(Log([(1, 1), (1, 1)]), [(0, 1), (1, 0)]), False)
        self.assertIs(is_choice(Log([(1, 1), (1, 1)]), [(0, 0), (1, 1)]), True)

    def test_value_is_not_changed(self):
        value = [(0, 3), (0, 1), (1, 2), (3, 3)]
        is_choice(self.log, value)
        self.assertEqual(value, [(0, 3), (0, 1), (1, 2), (3, 3)])

    def test_ages(self):
        self.assertEqual(ages_of(self.choice), [0, 1, 1, 3])
        self.assertEqual(ages_of(choice=tuple(self.choice)), [0, 1, 1, 3])
        self.assertEqual(ages_of([]), [])
        self.assertEqual(ages_of([(0, 59), (3, 3), (10, 12)]), [0, 2, 59])
        self.assertEqual(self.choice, [(0, 1), (0, 3), (1, 2), (3, 3)])


if __name__ == "__main__":
    unittest.main()
