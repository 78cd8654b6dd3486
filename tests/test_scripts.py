"""Points 15 and 16: the language of scripts, and what scripts do."""

import unittest

from haulropes.errors import (
    BrokenRope, ExecutionFailed, InvalidFleet, InvalidPositions, ScriptError, StepLimitExceeded)
from haulropes.scripts import run_script, trace_script
from support import CLASH, RING, ErrorCase

START = (10, 5, 5)
# Barges that no rope ties, each at ten times its number.
LOOSE = (8, ())
TENS = (0, 10, 20, 30, 40, 50, 60, 70)
WORDS = ("set", "add", "haul", "tie", "cut", "repeat", "while", "if", "else", "end", "to", "by")


def lines(*rows):
    """Return a script of rows."""
    return "\n".join(rows)


class ScriptCase(ErrorCase):
    def expect_script(self, kind, source, fleet=LOOSE, positions=TENS, **attributes):
        """Check that both functions raise this error for a script."""
        for call in (run_script, trace_script):
            self.expect(kind, call, fleet, positions, source, **attributes)

    def expect_wrong_row(self, row):
        """Check that a row is invalid wherever it stands."""
        self.expect_script(ScriptError, row, row=0)
        self.expect_script(ScriptError, lines(row, "set a 1"), row=0)
        self.expect_script(ScriptError, lines("set a 1", row, "set a"), row=1)
        self.expect_script(ScriptError, lines("repeat 0", "set a 1", row, "end"), row=2)

    def variables(self, *rows, fleet=LOOSE, positions=TENS):
        """Return the variables after a script."""
        return run_script(fleet, positions, lines(*rows))[3]

    def expect_value(self, value, word, *rows):
        """Check what a word stands for behind these rows."""
        found = self.variables(*rows, "set result " + word)
        self.assertEqual(found["result"], value)
        self.assertIs(type(found["result"]), int)


class RowTest(ScriptCase):
    def test_empty_script(self):
        self.assertEqual(run_script(RING, START, ""), (RING, START, 0, {}))
        self.assertEqual(trace_script(RING, START, ""), [])

    def test_empty_rows(self):
        self.expect_wrong_row(" ")
        self.expect_script(ScriptError, "\n", row=0)
        self.expect_script(ScriptError, "\nset a 1", row=0)
        self.expect_script(ScriptError, "set a 1\n", row=1)
        self.expect_script(ScriptError, "set a 1\n\nset a 1", row=1)
        self.expect_script(ScriptError, "repeat 1\nend\n", row=2)

    def test_only_line_feeds_separate_rows(self):
        for letter in ("\r", "\r\n", "\x0b", "\x0c", "\x1c", "\x85", "\u2028"):
            self.expect_script(ScriptError, "set a 1" + letter + "set a 2", row=0)

    def test_only_single_spaces_separate_words(self):
        rows = (
            "set a 1", "add a 1", "haul 0 to 10", "haul 0 by 1", "tie 0 1 5", "cut 0", "repeat 1", "while 0 < 1",
            "if 0 < 1", "else", "end")
        for row in rows:
            self.expect_wrong_row(" " + row)
            self.expect_wrong_row(row + " ")
            self.expect_wrong_row(row + "\t")
            if " " in row:
                for letters in ("  ", "\t", "\xa0", ""):
                    self.expect_wrong_row(row.replace(" ", letters))
                    self.expect_wrong_row(row.replace(" ", letters, 1))

    def test_rows_that_are_no_statements(self):
        rows = (
            "set", "set a", "set a 1 1", "set 1 a", "set @0 1", "set a b c", "set a =", "Set a 1", "SET a 1", "a set 1",
            "add", "add a", "add a 1 1", "add 1 a", "add @0 1", "sub a 1",
            "haul", "haul 0", "haul 0 to", "haul 0 by", "haul 0 to 1 1", "haul 0 1", "haul 0 at 1", "haul to 0 1",
            "haul 0 To 1", "haul 0 to to", "haul by by by", "haul 0 to -", "0 haul to 1",
            "tie", "tie 0", "tie 0 1", "tie 0 1 5 5", "tie 0 1 a", "tie 0 1 @0", "tie 0 1 05", "tie 0 1 -0",
            "cut", "cut 0 0", "cut cut", "change 0 5", "reach 1 2 3", "undo",
            "repeat", "repeat 1 1", "repeat to", "while", "while 0", "while 0 <", "while 0 < 1 1", "while 0 1 <",
            "while < 0 1", "while 0 == 1", "while 0 <= 1", "while 0 != 1", "while 0 => 1", "while 0 1 1",
            "while 0 by 1", "if", "if 0", "if 0 <", "if 0 < 1 1", "if 0 <> 1", "if a b c", "if 0 ! 1",
            "else 1", "else if 0 < 1", "end 1", "end end", "End", "ELSE", "to", "by", "a", "1", "@0", "<", "#", "VALUE",
            "set VARIABLE VALUE", "set VARIABLE 1", "set a VALUE", "cut VALUE", "cut INTEGER", "tie 0 1 INTEGER",
            "while 0 SIGN 1", "for 3")
        for row in rows:
            self.expect_wrong_row(row)

    def test_values_that_are_no_strings(self):
        for source in (None, True, 0, 1.5, (), ["set a 1"], b"set a 1"):
            self.expect_script(ScriptError, source, row=0)


class ValueTest(ScriptCase):
    def test_integers(self):
        right = {"0": 0, "7": 7, "10": 10, "999": 999, "1000": 1000, "9999": 9999, "-1": -1, "-5": -5, "-9999": -9999}
        for word, value in right.items():
            self.expect_value(value, word)

    def test_words_that_are_no_integers(self):
        wrong = (
            "-0", "00", "01", "-05", "007", "0000", "10000", "-10000", "99999", "+5", "--5", "-", "5-", "1.0", "1,0",
            "1_0", "0x1", "1e1", "\u0665", "\xb2", "\uff15", "-\u0665", "5a", "a5", "")
        for word in wrong:
            for row in ("set a {}", "add a {}", "haul {} to 1", "haul 0 to {}", "haul 0 by {}", "tie {} 1 5",
                        "tie 0 {} 5", "tie 0 1 {}", "cut {}", "repeat {}", "while {} < 1", "while 1 < {}", "if {} < 1",
                        "if 1 < {}"):
                self.expect_script(ScriptError, row.format(word), row=0)

    def test_variables(self):
        for name in ("a", "z", "abcdefgh", "stuvwxyz", "sets", "ad", "tied", "ends", "at", "rope", "barges", "change"):
            self.assertEqual(self.variables("set " + name + " 3", "add " + name + " " + name), {name: 6})

    def test_words_that_are_no_variables(self):
        wrong = WORDS + (
            "abcdefghi", "A", "aB", "ABC", "a1", "1a", "a_b", "a-b", "-a", "\xe4", "a\xdf", "\u03b1", "@", "@a", "=", "")
        for name in wrong:
            for row in ("set {} 1", "add {} 1", "set a {}", "add a {}", "haul {} to 1", "haul 0 by {}", "cut {}",
                        "repeat {}", "while {} < 1", "if 1 < {}"):
                self.expect_script(ScriptError, row.format(name), row=0)

    def test_positions_of_barges(self):
        for barge in range(8):
            self.expect_value(TENS[barge], "@" + str(barge))
        self.expect_value(25, "@2", "haul 2 by 5")
        for word in ("@", "@10", "@00", "@-1", "@a", "@@", "@@1", "1@", "@ 1", "@1 ", "@\u0661", "@\xb2", "a@1", "@1.5"):
            self.expect_script(ScriptError, "set a " + word, row=0)

    def test_variables_that_were_never_assigned(self):
        self.expect_value(0, "n")
        self.assertEqual(self.variables("set a n", "haul n by m", "if x = y", "add b z", "end"), {"a": 0, "b": 0})
        self.assertEqual(self.variables("add n 5", "add n m"), {"n": 5})
        self.assertEqual(self.variables("repeat n", "set a 1", "end", "while b > c", "set a 1", "end"), {})


class BlockTest(ScriptCase):
    def nest(self, many, word="repeat 1"):
        """Return the rows of so many statements within each other."""
        return [word] * many + ["add n 1"] + ["end"] * many

    def test_six_levels(self):
        for word in ("repeat 1", "if 0 = 0"):
            self.assertEqual(self.variables(*self.nest(6, word)), {"n": 1})
            self.assertEqual(self.variables(*self.nest(6, word), *self.nest(6, word)), {"n": 2})
        mixed = ["repeat 1", "if 0 = 0", "while n < 1", "if 1 = 0", "else", "repeat 1", "while n < 1", "add n 1"]
        self.assertEqual(self.variables(*mixed, *["end"] * 6), {"n": 1})

    def test_seven_levels(self):
        for word in ("repeat 1", "if 0 = 0", "while 0 = 1"):
            self.expect_script(ScriptError, lines(*self.nest(7, word)), row=6)
            self.expect_script(ScriptError, lines("set a 1", *self.nest(7, word)), row=7)
        self.expect_script(ScriptError, lines(*["repeat 1"] * 6, "if 0 = 0"), row=6)
        self.expect_script(ScriptError, lines(*["repeat 1"] * 5, "if 0 = 0", "else", "while 0 = 1"), row=7)
        self.expect_script(ScriptError, lines(*["repeat 0"] * 6, "set a 1", "end", "cut 0", "if 0 = 0", "if 0 = 0"), row=10)

    def test_60_rows(self):
        self.assertEqual(self.variables(*["add n 1"] * 60), {"n": 60})
        self.assertEqual(self.variables("repeat 1", *["add n 1"] * 58, "end"), {"n": 58})

    def test_61_rows(self):
        self.expect_script(ScriptError, lines(*["add n 1"] * 61), row=60)
        self.expect_script(ScriptError, lines(*["add n 1"] * 99), row=60)
        self.expect_script(ScriptError, lines(*["add n 1"] * 60, ""), row=60)
        self.expect_script(ScriptError, lines("repeat 1", *["add n 1"] * 59, "end"), row=60)
        self.expect_script(ScriptError, lines("if 0 = 0", *["add n 1"] * 59, "else", "end"), row=60)
        self.expect_script(ScriptError, lines(*["add n 1"] * 59, "wrong", "add n 1"), row=59)
        self.expect_script(ScriptError, lines(*["add n 1"] * 60, "wrong"), row=60)

    def test_end_and_else_that_belong_to_no_statement(self):
        self.expect_script(ScriptError, "end", row=0)
        self.expect_script(ScriptError, "else", row=0)
        self.expect_script(ScriptError, "set a 1\nend", row=1)
        self.expect_script(ScriptError, "repeat 1\nend\nend", row=2)
        self.expect_script(ScriptError, "repeat 1\nend\nelse", row=2)
        self.expect_script(ScriptError, "if 0 = 0\nend\nelse\nend", row=2)
        self.expect_script(ScriptError, "repeat 1\nelse\nend", row=1)
        self.expect_script(ScriptError, "while 0 = 1\nelse\nend", row=1)
        self.expect_script(ScriptError, "if 0 = 0\nrepeat 1\nelse\nend\nend", row=2)

    def test_second_else(self):
        self.expect_script(ScriptError, "if 0 = 0\nelse\nelse\nend", row=2)
        self.expect_script(ScriptError, "if 0 = 0\nset a 1\nelse\nset a 2\nelse\nend", row=4)
        self.expect_script(ScriptError, "if 0 = 0\nelse\nif 0 = 0\nend\nelse\nend", row=4)
        self.assertEqual(self.variables("if 1 = 0", "else", "if 1 = 0", "else", "set a 1", "end", "end"), {"a": 1})

    def test_missing_end(self):
        for rows in (["repeat 1"], ["while 0 = 1"], ["if 0 = 0"], ["if 0 = 0", "else"], ["repeat 1", "set a 1"],
                     ["repeat 1", "repeat 1", "end"], ["if 0 = 0", "else", "repeat 1", "end"], ["repeat 1"] * 6):
            self.expect_script(ScriptError, lines(*rows), row=len(rows))
        self.expect_script(ScriptError, lines("repeat 1", *["add n 1"] * 59), row=60)

    def test_first_invalid_row_is_told(self):
        self.expect_script(ScriptError, "repeat 1\nwrong\nelse", row=1)
        self.expect_script(ScriptError, "repeat 1\nelse\nwrong", row=1)
        self.expect_script(ScriptError, lines("end", *self.nest(7)), row=0)
        self.expect_script(ScriptError, lines(*self.nest(7), "wrong"), row=6)
        self.expect_script(ScriptError, "repeat 1\nwrong", row=1)

    def test_empty_blocks(self):
        self.assertEqual(self.variables("repeat 2", "end", "if 0 = 0", "else", "end", "while 1 = 0", "end"), {})


class StatementTest(ScriptCase):
    def test_examples(self):
        after = run_script(RING, START, "set n 2\nrepeat n\nhaul 0 by 2\nend")
        self.assertEqual(after[1:], ((14, 9, 5), 4, {"n": 2}))
        self.expect_script(ScriptError, "haul 0 to 14\nend", RING, START, row=1)
        self.expect_script(StepLimitExceeded, "while @0 > 0\nset n 1\nend", RING, START)
        trace = trace_script(RING, START, "while @0 < 13\nhaul 0 by 2\nend\ncut 1")
        self.assertEqual(trace, [("haul", 0, 12), ("haul", 0, 14), ("cut", 1)])

    def test_kinds_of_values(self):
        after = run_script(RING, START, "set a 1\nhaul 0 to 12")
        self.assertEqual([type(value) for value in after], [tuple, tuple, int, dict])
        self.assertIs(type(trace_script(RING, START, "cut 0")), list)

    def test_set_and_add(self):
        self.assertEqual(self.variables("set a 5", "set a -7", "set b a"), {"a": -7, "b": -7})
        self.assertEqual(self.variables("set a 5", "add a -7", "add a a"), {"a": -4})
        self.assertEqual(self.variables("set a @3", "add a @1", "add b 4"), {"a": 40, "b": 4})

    def test_edges_of_variables(self):
        self.assertEqual(self.variables("set a 9999", "add a 0", "set b -9999", "add b a", "add b -9999"),
                         {"a": 9999, "b": -9999})
        self.expect_script(ExecutionFailed, "set a 9999\nadd a 1", row=1)
        self.expect_script(ExecutionFailed, "set a -9999\nadd a -1", row=1)
        self.expect_script(ExecutionFailed, "set a 5000\nadd a a\nadd a 1", row=1)

    def test_variables_from_positions_beyond_9999(self):
        fleet = (2, ((0, 1, -50),))
        rows = ["haul 0 to 9960", "if @1 > 9999", "set b 1", "end", "set a @1"]
        self.expect_script(ExecutionFailed, lines(*rows), fleet, (0, 50), row=4)
        self.assertEqual(self.variables(*rows[:4], fleet=fleet, positions=(0, 50)), {"b": 1})
        self.expect_script(ExecutionFailed, lines(rows[0], "add a @1"), fleet, (0, 50), row=1)
        found = self.variables(rows[0], "set a -50", "add a @1", fleet=fleet, positions=(0, 50))
        self.assertEqual(found, {"a": 9960})

    def test_haul_to(self):
        self.assertEqual(trace_script(LOOSE, TENS, "set b 1\nhaul b to @2\nhaul 0 to b\nhaul @0 to 99"),
                         [("haul", 1, 20), ("haul", 0, 1), ("haul", 1, 99)])
        fleet, positions, distance, _ = run_script(RING, START, "haul 0 to 20\nhaul 2 to 12")
        self.assertEqual((fleet, positions, distance), (RING, (20, 15, 12), 12))

    def test_haul_by(self):
        self.assertEqual(trace_script(LOOSE, TENS, "haul 1 by 7\nhaul 1 by @1\nset d 2\nhaul 2 by d\nhaul 3 by 0"),
                         [("haul", 1, 17), ("haul", 1, 34), ("haul", 2, 22), ("haul", 3, 30)])
        self.assertEqual(run_script(RING, START, "haul 0 by 10\nhaul 0 by 1")[1:3], ((21, 16, 11), 11))

    def test_tie(self):
        fleet, positions, distance, _ = run_script(LOOSE, TENS, "set a 2\ntie 0 1 -10\ntie a 1 99\ntie 1 a 5\nhaul 0 by 3")
        self.assertEqual(fleet, (8, ((0, 1, -10), (2, 1, 99), (1, 2, 5))))
        self.assertEqual((positions, distance), ((3, 13) + TENS[2:], 3))
        self.assertEqual(trace_script(LOOSE, (1, 2) + TENS[2:], "tie @0 @1 10"), [("tie", (1, 2, 10))])

    def test_cut(self):
        after = run_script(RING, START, "cut 1\nset i 1\ncut i")
        self.assertEqual(after, ((3, ((0, 1, 5),)), START, 0, {"i": 1}))
        self.assertEqual(trace_script(RING, (2, 1, 0), "cut @0\ncut @1\ncut @2"), [("cut", 2), ("cut", 1), ("cut", 0)])

    def test_repeat(self):
        for word, many in (("3", 3), ("1", 1), ("0", 0), ("-1", 0), ("-9999", 0), ("n", 0), ("@1", 10)):
            found = self.variables("repeat " + word, "add m 1", "end")
            self.assertEqual(found.get("m", 0), many)
        self.assertEqual(self.variables("repeat 2", "repeat 3", "add m 1", "end", "add k 1", "end"), {"m": 6, "k": 2})

    def test_repeat_evaluates_its_value_once(self):
        self.assertEqual(self.variables("set n 3", "repeat n", "add n 5", "end"), {"n": 18})
        self.assertEqual(self.variables("set n 3", "repeat n", "set n 0", "add m 1", "end"), {"n": 0, "m": 3})
        trace = trace_script(LOOSE, TENS, "haul 0 to 2\nrepeat @0\nhaul 0 by 3\nend")
        self.assertEqual(trace, [("haul", 0, 2), ("haul", 0, 5), ("haul", 0, 8)])

    def test_while(self):
        self.assertEqual(self.variables("while n < 4", "add n 1", "end"), {"n": 4})
        self.assertEqual(self.variables("set n 3", "while n > 0", "add n -1", "add m n", "end"), {"n": 0, "m": 3})
        self.assertEqual(self.variables("while n = 0", "add n 1", "end"), {"n": 1})
        self.assertEqual(self.variables("while n = 1", "add n 1", "end"), {})
        self.assertEqual(self.variables("set m 5", "while n < m", "add n 1", "add m -1", "end"), {"n": 3, "m": 2})

    def test_while_determines_positions_ahead_of_each_execution(self):
        self.assertEqual(trace_script(LOOSE, TENS, "while @0 < @1\nhaul 0 by 4\nend"),
                         [("haul", 0, 4), ("haul", 0, 8), ("haul", 0, 12)])
        self.assertEqual(trace_script(LOOSE, TENS, "while 13 > @1\nhaul 1 by 1\nend"),
                         [("haul", 1, 11), ("haul", 1, 12), ("haul", 1, 13)])

    def test_signs(self):
        for left, right in ((1, 2), (2, 2), (3, 2), (-3, -2), (-1, 0)):
            for sign, holds in (("<", left < right), ("=", left == right), (">", left > right)):
                for first in (str(left), "a"):
                    rows = [f"set a {left}", f"if {first} {sign} {right}", "set r 1", "else", "set r 2", "end"]
                    self.assertEqual(self.variables(*rows)["r"], 1 if holds else 2)
                rows = [f"while {left} {sign} {right}", "add n 1", "end"]
                if holds:
                    self.expect_script(StepLimitExceeded, lines(*rows))
                else:
                    self.assertEqual(self.variables(*rows), {})

    def test_if(self):
        self.assertEqual(self.variables("if 1 = 1", "set a 1", "end", "set b 1"), {"a": 1, "b": 1})
        self.assertEqual(self.variables("if 1 = 2", "set a 1", "end", "set b 1"), {"b": 1})
        self.assertEqual(self.variables("if @0 < @1", "set a 1", "set c 1", "else", "set b 1", "end"), {"a": 1, "c": 1})
        self.assertEqual(self.variables("if @1 < @0", "set a 1", "else", "set b 1", "set c 1", "end"), {"b": 1, "c": 1})
        rows = ["if 1 = 1", "if 1 = 2", "set a 1", "else", "set a 2", "end", "else", "set a 3", "end"]
        self.assertEqual(self.variables(*rows), {"a": 2})
        rows = ["set n 5", "if n = 5", "set n 6", "else", "set m 1", "end"]
        self.assertEqual(self.variables(*rows), {"n": 6})

    def test_positions_are_determined_when_the_statement_is_executed(self):
        rows = ["repeat 3", "add sum @0", "haul 0 by 5", "end", "set a @0"]
        self.assertEqual(self.variables(*rows), {"sum": 15, "a": 15})
        fleet, positions, distance, found = run_script(RING, START, "set a @1\nhaul 0 to 20\nset b @1\nhaul 1 to @0")
        self.assertEqual((positions, distance, found), ((20, 20, 15), 15, {"a": 5, "b": 15}))

    def test_trace_is_the_history(self):
        rows = ["tie 0 1 9", "set n 2", "repeat n", "haul 0 by 1", "end", "cut 3", "if n = 2", "cut 0", "end"]
        trace = trace_script(RING, START, lines(*rows))
        self.assertEqual(trace, [("tie", (0, 1, 9)), ("haul", 0, 11), ("haul", 0, 12), ("cut", 3), ("cut", 0)])


class StepTest(ScriptCase):
    def expect_steps(self, many, *rows):
        """Check that rows take so many steps: that many more fit in behind them, and no other one."""
        left = 300 - many
        # A repeat with an empty block takes one step more than its block has executions.
        for word in ("set zz 1", "if 0 = 0", "repeat 0", "while 0 = 1", "cut 0"):
            tail = [word] if word.split()[0] in ("set", "cut") else [word, "end"]
            fleet = (2, ((0, 1, 99),))
            source = lines(*rows, f"repeat {left - 2}", "end", *tail)
            run_script(fleet, (0, 10), source)
            source = lines(*rows, f"repeat {left - 1}", "end", *tail)
            self.expect_script(StepLimitExceeded, source, fleet, (0, 10))
        run_script((2, ()), (0, 10), lines(*rows, f"repeat {left - 1}", "end"))
        self.expect_script(StepLimitExceeded, lines(*rows, f"repeat {left}", "end"), (2, ()), (0, 10))

    def test_300_and_301_steps(self):
        rows = ["repeat 149", "add n 1", "end"]
        self.assertEqual(self.variables(*rows, "set m 1"), {"n": 149, "m": 1})
        self.expect_script(StepLimitExceeded, lines(*rows, "set m 1", "set m 1"))
        self.assertEqual(self.variables("repeat 299", "end"), {})
        self.expect_script(StepLimitExceeded, "repeat 300\nend")
        self.expect_script(StepLimitExceeded, "repeat 9999\nend")

    def test_steps_of_statements(self):
        self.expect_steps(0)
        self.expect_steps(1, "set a 1")
        self.expect_steps(5, "set a 1", "add a 1", "haul 0 by 1", "haul 0 to 5", "haul 1 by 0")
        self.expect_steps(2, "tie 0 1 0", "cut 0")

    def test_steps_of_if(self):
        self.expect_steps(1, "if 0 = 1", "set a 1", "end")
        self.expect_steps(2, "if 0 = 0", "set a 1", "end")
        self.expect_steps(2, "if 0 = 0", "set a 1", "else", "set a 1", "set a 2", "end")
        self.expect_steps(3, "if 0 = 1", "set a 1", "else", "set a 1", "set a 2", "end")

    def test_steps_of_repeat(self):
        self.expect_steps(1, "repeat 0", "set a 1", "end")
        self.expect_steps(1, "repeat -5", "set a 1", "end")
        self.expect_steps(3, "repeat 1", "set a 1", "end")
        self.expect_steps(10, "repeat 3", "set a 1", "set a 2", "end")
        self.expect_steps(4, "repeat 3", "end")
        self.expect_steps(1 + 2 * (1 + 1 + 3 * 2), "repeat 2", "repeat 3", "set a 1", "end", "end")

    def test_steps_of_while(self):
        self.expect_steps(1, "while 0 = 1", "set a 1", "end")
        self.expect_steps(7, "while n < 3", "add n 1", "end")
        self.expect_steps(9, "while n < 2", "add n 1", "if n = 1", "set a 1", "else", "set a 2", "end", "end")

    def test_limit_comes_ahead_of_the_statement(self):
        self.expect_script(StepLimitExceeded, "repeat 299\nend\ncut 0")
        self.expect_script(ExecutionFailed, "repeat 298\nend\ncut 0", row=2)
        self.expect_script(StepLimitExceeded, "repeat 299\nend\nset a @9")
        self.expect_script(ExecutionFailed, "repeat 298\nend\nrepeat @9\nend", row=2)

    def test_endless_scripts(self):
        self.expect_script(StepLimitExceeded, "while 0 = 0\nend")
        self.expect_script(StepLimitExceeded, "repeat 9999\nrepeat 9999\nend\nend")
        self.expect_script(StepLimitExceeded, "while n < 1\nif n > 0\nset n 1\nend\nend")


class FailureTest(ScriptCase):
    def test_numbers_that_are_no_barges(self):
        rows = (
            "set a @3", "add a @3", "haul @3 to 1", "haul 0 to @3", "haul @9 by 1", "haul 0 by @9", "tie @3 1 5",
            "tie 0 @3 5", "cut @3", "repeat @3\nend", "while @3 < 0\nend", "while 0 < @3\nend", "if @3 < 0\nend",
            "if 0 < @3\nelse\nend")
        for row in rows:
            self.expect_script(ExecutionFailed, row, RING, START, row=0)
            self.expect_script(ExecutionFailed, "set b 1\nif 0 = 0\n" + row + "\nend", RING, START, row=2)
        self.expect_script(ExecutionFailed, "set a @0\nset a @1", (1, ()), (5,), row=1)
        self.assertEqual(self.variables("if 0 = 1", "set a @9", "end"), {})

    def test_errors_of_hauls(self):
        for row in ("haul 0 to 9", "haul 0 by -1", "haul 3 to 20", "haul 3 by 1", "haul -1 to 20", "haul -1 by 1",
                    "haul 9999 by 1", "haul 9 by -5", "set a 9999\nhaul 0 by a"):
            self.expect_script(ExecutionFailed, row, RING, START, row=row.count("\n"))
        self.expect_script(ExecutionFailed, "haul 0 to 9999\nhaul 0 by 1", RING, START, row=1)

    def test_errors_of_ropes(self):
        rows = ("tie 0 0 5", "tie 0 3 5", "tie -1 0 5", "tie 0 1 100", "tie 0 1 -100", "tie 0 1 4", "cut 3", "cut -1")
        for row in rows:
            self.expect_script(ExecutionFailed, row, RING, START, row=0)
            self.expect_script(ExecutionFailed, "repeat 2\nhaul 0 by 0\n" + row + "\nend", RING, START, row=2)
        ties = ["repeat 41", "tie 0 1 5", "end"]
        self.expect_script(ExecutionFailed, lines(*ties), (2, ()), (0, 0), row=1)
        self.assertEqual(len(run_script((2, ()), (0, 0), lines("repeat 40", *ties[1:]))[0][1]), 40)

    def test_positions_beyond_9999(self):
        fleet = (2, ((0, 1, -50),))
        for row in ("haul 0 by 0", "haul 0 to 9960", "tie 0 1 5", "cut 0"):
            self.expect_script(ExecutionFailed, "haul 0 to 9960\nset a @0\n" + row, fleet, (0, 50), row=2)

    def test_row_of_the_statement_is_told(self):
        rows = ["set n 3", "while n > 0", "if n = 1", "set m 1", "else", "add n -1", "end", "haul n to 40", "end"]
        self.expect_script(ExecutionFailed, lines(*rows), (2, ()), (0, 0), row=7)
        rows = ["repeat 3", "haul 0 by 4", "if @0 > 7", "haul 0 to 5", "end", "end"]
        self.expect_script(ExecutionFailed, lines(*rows), row=3)

    def test_errors_in_their_order(self):
        self.expect_script(InvalidFleet, "wrong", None, None, part="fleet", index=0)
        self.expect_script(InvalidPositions, "wrong", RING, (10, 5), index=2)
        self.expect_script(BrokenRope, "wrong", RING, (10, 4, 4), index=0)
        self.expect_script(BrokenRope, "", CLASH, (0, 0), index=1)
        self.expect_script(ScriptError, "cut 9\nwrong", row=1)
        self.expect_script(ScriptError, "while 0 = 0\nend\nend", row=2)
        self.expect_script(ExecutionFailed, "cut 9\nwhile 0 = 0\nend", row=0)
        self.expect_script(StepLimitExceeded, "while 0 = 0\nend\ncut 9")


class RepeatedCallTest(ScriptCase):
    def test_variables_and_traces_are_new(self):
        source = "set n 2\nhaul 0 by n"
        found = run_script(RING, START, source)[3]
        found["m"] = 1
        found.pop("n")
        self.assertEqual(run_script(RING, START, source)[3], {"n": 2})
        trace_script(RING, START, source).clear()
        self.assertEqual(trace_script(RING, START, source), [("haul", 0, 12)])


if __name__ == "__main__":
    unittest.main()
