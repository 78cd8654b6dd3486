"""Point 17: texts of fleets at positions, and of plans."""

import unittest

from haulropes.errors import BrokenRope, HaulError, InvalidFleet, InvalidHaul, InvalidPositions, NotationError
from haulropes.notation import format_plan, format_state, parse_plan, parse_state
from support import CLASH, NO_NUMBERS, RING, ErrorCase, calm_fleets

STATE = "barges 2\nrope 0 1 5\nrope 1 0 -2\nat 5 3"
# Words that are no integers from -9999 to 9999 in their only form.
NO_INTEGERS = (
    "", "-", "-0", "00", "01", "-01", "10000", "-10000", "+1", "--1", "1.0", "1a", "a", "@1", "1\t", "\t1", "1\r",
    "\u0665", "\xb2", "\uff11", "x")


class NotationCase(ErrorCase):
    def expect_wrong(self, call, text, row, word):
        """Check that a text is wrong at this row and word."""
        self.expect(NotationError, call, text, row=row, word=word)

    def expect_state_wrong(self, text, row, word):
        """Check the same of the text of a fleet at positions."""
        self.expect_wrong(parse_state, text, row, word)


class FormatStateTest(NotationCase):
    def test_example(self):
        self.assertEqual(format_state((2, ((0, 1, 5),)), (3, -2)), "barges 2\nrope 0 1 5\nat 3 -2")

    def test_texts(self):
        self.assertEqual(format_state((1, ()), (0,)), "barges 1\nat 0")
        self.assertEqual(format_state((1, ()), (-9999,)), "barges 1\nat -9999")
        self.assertEqual(format_state(RING, (10, 5, 5)),
                         "barges 3\nrope 0 1 5\nrope 1 2 5\nrope 2 0 5\nat 10 5 5")
        self.assertEqual(format_state((8, ((7, 6, -99), (6, 7, 99))), (9999,) * 7 + (9900,)),
                         "barges 8\nrope 7 6 -99\nrope 6 7 99\nat" + " 9999" * 7 + " 9900")

    def test_errors_in_their_order(self):
        self.expect(InvalidFleet, format_state, None, None, part="fleet", index=0)
        self.expect(InvalidFleet, format_state, (0, ()), None, part="count", index=0)
        self.expect(InvalidFleet, format_state, (2, ((0, 1, True),)), None, part="ropes", index=0)
        self.expect(InvalidPositions, format_state, CLASH, None, index=0)
        self.expect(InvalidPositions, format_state, RING, (10, 4), index=2)
        self.expect(InvalidPositions, format_state, (1, ()), (10000,), index=0)
        self.expect(BrokenRope, format_state, RING, (10, 4, 4), index=0)


class ParseStateTest(NotationCase):
    def test_examples(self):
        self.assertEqual(parse_state("barges 2\nrope 0 1 5\nat 3 -2"), ((2, ((0, 1, 5),)), (3, -2)))
        self.expect_state_wrong("barges 2\nrope 0 1\nat 3 -2", 1, 3)

    def test_there_and_back(self):
        states = calm_fleets(150) + [((1, ()), (9999,)), ((8, ()), (-9999,) * 8), ((2, ((0, 1, -99),) * 40), (0, 99))]
        for fleet, positions in states:
            text = format_state(fleet, positions)
            self.assertEqual(parse_state(text), (fleet, positions))
            self.assertEqual(parse_state(text), (fleet, positions))

    def test_kinds_of_values(self):
        fleet, positions = parse_state(STATE)
        self.assertEqual([type(value) for value in (fleet, fleet[1], fleet[1][0], positions)], [tuple] * 4)
        self.assertIs(type(parse_state("barges 1\nat 0")), tuple)

    def test_empty_text(self):
        self.expect_state_wrong("", 0, 0)
        self.expect_state_wrong("\n", 0, 0)
        self.expect_state_wrong(" ", 0, 0)
        self.expect_state_wrong("\nbarges 1\nat 0", 0, 0)

    def test_first_row(self):
        for text in ("barge 2", "Barges 2", "rope 0 1 5", "at 3 -2", "2", "barges2", "b 2", "haul 0 1", "-0", "barges\t2"):
            self.expect_state_wrong(text + "\nat 0 0", 0, 0)
            self.expect_state_wrong(text, 0, 0)
        self.expect_state_wrong("barges\nat 0 0", 0, 1)
        self.expect_state_wrong("barges 2 2\nat 0 0", 0, 2)
        self.expect_state_wrong("barges 2 x\nat 0 0", 0, 2)
        self.expect_state_wrong("barges 2 2 2\nat 0 0", 0, 2)
        self.expect_state_wrong("barges x 2\nat 0 0", 0, 1)
        self.expect_state_wrong("barges x\nat 0 0", 0, 1)

    def test_rows_of_ropes(self):
        for text in ("ropes 0 1 5", "Rope 0 1 5", "barges 2", "0 1 5", "haul 0 1", "x", "set a 1", "rope\t0 1 5"):
            self.expect_state_wrong("barges 2\n" + text + "\nat 0 0", 1, 0)
            self.expect_state_wrong("barges 2\nrope 0 1 5\n" + text, 2, 0)
        self.expect_state_wrong("barges 2\nrope\nat 0 0", 1, 1)
        self.expect_state_wrong("barges 2\nrope 0\nat 0 0", 1, 2)
        self.expect_state_wrong("barges 2\nrope 0 1\nat 0 0", 1, 3)
        self.expect_state_wrong("barges 2\nrope 0 1 5\nrope 0 1\nat 0 0", 2, 3)
        self.expect_state_wrong("barges 2\nrope 0 1 5 5\nat 0 0", 1, 4)
        self.expect_state_wrong("barges 2\nrope 0 1 5 x y\nat 0 0", 1, 4)
        self.expect_state_wrong("barges 2\nrope 0 x\nat 0 0", 1, 2)
        self.expect_state_wrong("barges 2\nrope x\nat 0 0", 1, 1)
        self.expect_state_wrong("barges 2\nrope x 1 5 5\nat 0 0", 1, 1)

    def test_words_that_are_no_integers(self):
        for word in NO_INTEGERS:
            self.expect_state_wrong(f"barges {word}\nat 0 0", 0, 1)
            self.expect_state_wrong(f"barges 2\nrope {word} 1 5\nat 0 0", 1, 1)
            self.expect_state_wrong(f"barges 2\nrope 0 {word} 5\nat 0 0", 1, 2)
            self.expect_state_wrong(f"barges 2\nrope 0 1 {word}\nat 0 0", 1, 3)
            self.expect_state_wrong(f"barges 2\nat {word} 0", 1, 1)
            self.expect_state_wrong(f"barges 2\nat 0 {word}", 1, 2)
            self.expect_state_wrong(f"barges 2\nat 0 0 0 {word}", 1, 4)

    def test_spaces_in_wrong_places(self):
        self.expect_state_wrong(" barges 2\nat 0 0", 0, 0)
        self.expect_state_wrong("barges  2\nat 0 0", 0, 1)
        self.expect_state_wrong("barges 2 \nat 0 0", 0, 2)
        self.expect_state_wrong("barges \nat 0 0", 0, 1)
        self.expect_state_wrong("barges 2\n rope 0 1 5\nat 0 0", 1, 0)
        self.expect_state_wrong("barges 2\nrope 0  1 5\nat 0 0", 1, 2)
        self.expect_state_wrong("barges 2\nrope 0 1 5 \nat 0 0", 1, 4)
        self.expect_state_wrong("barges 2\n at 0 0", 1, 0)
        self.expect_state_wrong("barges 2\nat  0 0", 1, 1)
        self.expect_state_wrong("barges 2\nat 0 0 ", 1, 3)
        self.expect_state_wrong("barges 2\nat ", 1, 1)
        self.expect_state_wrong("barges 2\n\nat 0 0", 1, 0)

    def test_row_at_is_missing(self):
        self.expect_state_wrong("barges 2", 1, 0)
        self.expect_state_wrong("barges 2\nrope 0 1 5", 2, 0)
        self.expect_state_wrong("barges 2\nrope 0 1 5\nrope 0 1 5", 3, 0)
        self.expect_state_wrong("barges 9", 1, 0)
        self.expect_state_wrong("barges 2\n", 1, 0)

    def test_rows_behind_at(self):
        for text in ("at 0 0", "rope 0 1 5", "barges 2", "", "x", " ", "at x"):
            self.expect_state_wrong("barges 2\nat 0 0\n" + text, 2, 0)
            self.expect_state_wrong("barges 2\nrope 0 1 5\nat 0 0\n" + text + "\nx", 3, 0)
        self.expect_state_wrong("barges 2\nat 0 x\nat 0 0", 1, 2)

    def test_only_line_feeds_separate_rows(self):
        for letter in ("\r", "\x0b", "\x0c", "\x85", "\u2028"):
            self.expect_state_wrong("barges 2" + letter + "at 0 0", 0, 1)
        self.expect_state_wrong("barges 2\r\nat 0 0", 0, 1)

    def test_errors_of_harbors_come_later(self):
        invalid = {
            "barges 0\nat": ("count", 0), "barges 9\nat 0": ("count", 0), "barges -1\nat 0": ("count", 0),
            "barges 9\nrope 9 9 999\nat": ("count", 0), "barges 2\nrope 0 2 5\nat": ("ropes", 0),
            "barges 2\nrope 0 1 5\nrope 0 0 5\nat 0 0": ("ropes", 1), "barges 2\nrope 0 1 100\nat 0 0": ("ropes", 0),
            "barges 2\nrope 0 1 -100\nat 0 0": ("ropes", 0), "barges 2\nrope -1 0 5\nat 0 0": ("ropes", 0),
            "barges 2\n" + "rope 0 1 5\n" * 41 + "at 0 0": ("ropes", 40)}
        for text, (part, index) in invalid.items():
            self.expect(InvalidFleet, parse_state, text, part=part, index=index)
        self.expect(InvalidPositions, parse_state, "barges 2\nat", index=0)
        self.expect(InvalidPositions, parse_state, "barges 2\nat 0", index=1)
        self.expect(InvalidPositions, parse_state, "barges 2\nrope 0 1 -5\nat 0 0 0", index=2)
        self.expect(BrokenRope, parse_state, "barges 2\nrope 0 1 5\nrope 1 0 -5\nat 4 0", index=1)
        self.expect_state_wrong("barges 9\nrope 0 0 0\nat 0 x", 2, 2)
        self.expect_state_wrong("barges 9\nrope 0 0 0", 2, 0)
        self.expect_state_wrong("barges 2\nrope 0 2 5\nat 0 0\nat 0 0", 3, 0)

    def test_40_ropes(self):
        text = "barges 2\n" + "rope 0 1 5\n" * 40 + "at 0 0"
        self.assertEqual(parse_state(text), ((2, ((0, 1, 5),) * 40), (0, 0)))

    def test_values_that_are_no_strings(self):
        for text in (None, True, 0, 1.5, (), ["barges 1", "at 0"], b"barges 1\nat 0"):
            self.expect_state_wrong(text, 0, 0)

    def test_each_text_has_one_form(self):
        # Whatever is changed in a text, it is either wrong or just what is formatted.
        found = 0
        for at in range(len(STATE) + 1):
            for letter in ("", " ", "\n", "0", "1", "-", "a", "at", "\n\n"):
                for tail in (STATE[at:], STATE[at + 1:]):
                    text = STATE[:at] + letter + tail
                    try:
                        fleet, positions = parse_state(text)
                    except HaulError:
                        continue
                    found += 1
                    self.assertEqual(format_state(fleet, positions), text)
        self.assertGreater(found, 10)


class PlanTest(NotationCase):
    def test_examples(self):
        self.assertEqual(format_plan([(0, 14), (2, -3)]), "haul 0 14\nhaul 2 -3")
        self.assertEqual(parse_plan("haul 0 14"), [(0, 14)])
        self.expect_wrong(parse_plan, "haul 9 14", 0, 1)

    def test_there_and_back(self):
        plans = ([], [(0, 0)], [(7, 9999), (7, -9999)], [(0, 14), (2, -3), (0, 14)], [(3, 5)] * 300)
        for plan in plans:
            text = format_plan(plan)
            self.assertEqual(parse_plan(text), plan)
            self.assertEqual(text.count("haul"), len(plan))
            self.assertIs(type(parse_plan(text)), list)

    def test_empty_plan(self):
        self.assertEqual(format_plan([]), "")
        self.assertEqual(parse_plan(""), [])

    def test_formatting_no_list(self):
        for value in (None, True, 0, "", "haul 0 14", (), ((0, 14),), (0, 14), {}):
            self.expect(InvalidHaul, format_plan, value, index=0)

    def test_formatting_no_hauls(self):
        wrong = NO_NUMBERS + (
            0, (0,), (0, 14, 0), [0, 14], "01", (8, 0), (-1, 0), (0, 10000), (0, -10000), (True, 0), (0, True),
            (None, 0), (0, None), ("0", 14), (0, "14"), ((0, 14),), (0.0, 1))
        for item in wrong:
            self.expect(InvalidHaul, format_plan, [item], index=0)
            self.expect(InvalidHaul, format_plan, [(7, 9999), (0, -9999), item, None], index=2)

    def test_barges_and_positions_at_the_edges(self):
        self.assertEqual(parse_plan("haul 0 -9999\nhaul 7 9999"), [(0, -9999), (7, 9999)])
        self.expect_wrong(parse_plan, "haul 8 0", 0, 1)
        self.expect_wrong(parse_plan, "haul -1 0", 0, 1)
        self.expect_wrong(parse_plan, "haul 0 10000", 0, 2)
        self.expect_wrong(parse_plan, "haul 0 -10000", 0, 2)

    def test_barges_that_there_are_not_come_behind_other_words(self):
        self.expect_wrong(parse_plan, "haul 9", 0, 2)
        self.expect_wrong(parse_plan, "haul 9 x", 0, 2)
        self.expect_wrong(parse_plan, "haul 9 10000", 0, 2)
        self.expect_wrong(parse_plan, "haul 9 1 1", 0, 3)
        self.expect_wrong(parse_plan, "haul x 1 1", 0, 1)
        self.expect_wrong(parse_plan, "haul 0 1\nhaul 9 1\nhaul 0", 1, 1)
        self.expect_wrong(parse_plan, "haul 0 1\nhaul 0\nhaul 9 1", 1, 2)

    def test_wrong_rows(self):
        wrong = {
            "haul": 1, "haul 0": 2, "haul 0 1 1": 3, "haul 0 1 x y": 3, "hauls 0 1": 0, "Haul 0 1": 0, "0 1": 0, "x": 0,
            "": 0, " ": 0, " haul 0 1": 0, "haul  0 1": 1, "haul 0  1": 2, "haul 0 1 ": 3, "haul 0 ": 2, "haul ": 1,
            "haul x": 1, "haul 0 to 1": 2, "haul\t0 1": 0, "barges 2": 0, "at 0 0": 0}
        for text, word in wrong.items():
            self.expect_wrong(parse_plan, "haul 0 14\n" + text, 1, word)
            self.expect_wrong(parse_plan, "haul 0 14\n" + text + "\nx", 1, word)
            if text != "":
                self.expect_wrong(parse_plan, text, 0, word)
        self.expect_wrong(parse_plan, "\n", 0, 0)
        self.expect_wrong(parse_plan, "haul 0 14\n", 1, 0)
        self.expect_wrong(parse_plan, "\nhaul 0 14", 0, 0)

    def test_words_that_are_no_integers(self):
        for word in NO_INTEGERS:
            self.expect_wrong(parse_plan, f"haul {word} 14", 0, 1)
            self.expect_wrong(parse_plan, f"haul {word} x", 0, 1)
            self.expect_wrong(parse_plan, f"haul 0 {word}", 0, 2)

    def test_values_that_are_no_strings(self):
        for text in (None, True, 0, (), [], ["haul 0 14"], b""):
            self.expect_wrong(parse_plan, text, 0, 0)

    def test_hauls_are_a_list_of_their_own(self):
        parse_plan("haul 0 14").append("changed")
        self.assertEqual(parse_plan("haul 0 14"), [(0, 14)])
        parse_plan("").append("changed")
        self.assertEqual(parse_plan(""), [])


if __name__ == "__main__":
    unittest.main()
