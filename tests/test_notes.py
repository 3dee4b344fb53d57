"""Promise 12: worlds as texts."""

import unittest

from asking import kinds, refusal
from onebreath.notes import read, written

WORLDS = {
    "store 20 5 1": ((20, 5, 1), ()),
    "store 20 5 1\nmachine 3,2,0 4,1,4": ((20, 5, 1), (((3, 2, 0), (4, 1, 4)),)),
    "store 20 5 1\nmachine": ((20, 5, 1), ((),)),
    "store 1 0 0\nmachine\nmachine\nmachine\nmachine\nmachine": ((1, 0, 0), ((), (), (), (), ())),
    "store 99 99 9\nmachine\nmachine 99,9,99\nmachine 0,1,0 10,2,10":
        ((99, 99, 9), ((), ((99, 9, 99),), ((0, 1, 0), (10, 2, 10)))),
    "store 7 0 3\n" + "\n".join(["machine" + " 7,9,0" * 6] * 5): ((7, 0, 3), (((7, 9, 0),) * 6,) * 5),
}


def bad_text(row):
    return ("BadText", {"row": row})


def bad_step(machine, step):
    return ("BadStep", {"machine": machine, "step": step})


class WrittenTest(unittest.TestCase):
    def test_rows(self):
        for text, world in WORLDS.items():
            self.assertEqual(kinds(written(world)), kinds(text))

    def test_no_world(self):
        for store in ((0, 0, 0), (100, 0, 0), (5, 6, 0), (5, -1, 0), (5, 5, 10), (5, 5, -1)):
            self.assertEqual(refusal(written, (store, (((9, 9, 9),),))), ("BadStore", {}))
        store = (5, 5, 1)
        good = ((1, 1, 1),)
        for step in ((6, 1, 0), (-1, 1, 0), (3, 0, 0), (3, 10, 0), (3, 1, 4), (3, 1, -1)):
            self.assertEqual(refusal(written, (store, ((), good + (step,), (step,)))), bad_step(1, 1))
        self.assertEqual(refusal(written, (store, (good,) * 6)), bad_step(5, 0))
        self.assertEqual(refusal(written, (store, (good, good * 7))), bad_step(1, 6))


class ReadTest(unittest.TestCase):
    def assert_bad(self, text, row):
        self.assertEqual(refusal(read, text), bad_text(row), text)

    def test_the_same_again_in_tuples(self):
        for text, world in WORLDS.items():
            self.assertEqual(kinds(read(text)), kinds(world))
            self.assertEqual(kinds(read(written(world))), kinds(world))

    def test_all_numbers(self):
        for number in range(100):
            world = ((99, number, 0), (((99, 1, number), (number, 9, 0)),))
            self.assertEqual(read(written(world)), world)

    def test_empty_text_and_empty_rows(self):
        self.assert_bad("", 0)
        self.assert_bad("\n", 0)
        self.assert_bad("\nstore 20 5 1", 0)
        self.assert_bad("store 20 5 1\n\nmachine", 1)
        self.assert_bad("store 20 5 1\nmachine\n\nmachine", 2)

    def test_a_row_too_many_behind_the_last_line_end(self):
        self.assert_bad("store 20 5 1\n", 1)
        self.assert_bad("store 20 5 1\nmachine 3,2,0\n", 2)
        self.assert_bad("store 20 5 1\nmachine\n\n", 2)

    def test_two_blanks_together(self):
        for row in ("store  20 5 1", "store 20  5 1", "store 20 5  1"):
            self.assert_bad(row, 0)
        for row in ("machine  3,2,0", "machine 3,2,0  4,1,4", "machine  "):
            self.assert_bad("store 20 5 1\nmachine\n" + row, 2)

    def test_a_blank_at_a_rows_end_or_begin(self):
        for row in ("store 20 5 1 ", " store 20 5 1", "store 20 5 ", "store ", " "):
            self.assert_bad(row, 0)
            self.assert_bad(row + "\nmachine 3,2,0", 0)
        for row in ("machine ", " machine", "machine 3,2,0 ", " machine 3,2,0", " "):
            self.assert_bad("store 20 5 1\n" + row, 1)

    def test_numbers_that_are_none(self):
        wrong = (
            "05", "00", "01", "005", "100", "123", "+5", "-1", "-0", "+", "-", "", "x", "1x", "0x", "1_", "1.", ".5",
            "5e", "\u0663", "\u0661\u0662", "\u00b2", "\uff11", "\u2460", "5\t", "\t5", "5\r", "1\u0662", "\u06625",
        )
        for number in wrong:
            for row in (f"store {number} 5 1", f"store 20 {number} 1", f"store 20 5 {number}"):
                self.assert_bad(row, 0)
                self.assert_bad(row + "\nmachine 3,2,0", 0)
            for step in (f"{number},2,0", f"3,{number},0", f"3,2,{number}"):
                self.assert_bad("store 20 5 1\nmachine " + step, 1)
                self.assert_bad(f"store 20 5 1\nmachine\nmachine 3,2,0 {step}", 2)

    def test_another_word(self):
        for row in ("Store 20 5 1", "STORE 20 5 1", "stor 20 5 1", "stores 20 5 1", "20 5 1", "machine 3,2,0"):
            self.assert_bad(row, 0)
        for row in ("Machine", "machines 3,2,0", "mach", "3,2,0", "store 20 5 1", "store", "machine3,2,0"):
            self.assert_bad("store 20 5 1\n" + row, 1)

    def test_two_or_four_numbers(self):
        for row in ("store", "store 20", "store 20 5", "store 20 5 1 1", "store 20,5,1", "store 20 5 1 3,2,0"):
            self.assert_bad(row, 0)
        wrong = ("3", "3,2", "3,2,0,0", "3,2,0,", ",3,2,0", ",,", "3,,0", "3,2,", "3 2 0", ",", "3;2;0", "3,2,0,4,1,4")
        for step in wrong:
            self.assert_bad("store 20 5 1\nmachine 3,2,0 " + step, 1)

    def test_other_line_ends(self):
        for end in ("\r\n", "\r", "\x0b", "\x0c", "\x85", "\u2028", "\n\r"):
            self.assertEqual(refusal(read, f"store 20 5 1{end}machine")[0], "BadText")
        self.assert_bad("store 20 5 1\r\nmachine 3,2,0", 0)
        self.assert_bad("store 20 5 1\nmachine 3,2,0\r\nmachine", 1)

    def test_the_first_row_that_is_not_so(self):
        self.assert_bad("store 20 5 01\nmachine 3,2\nmachines", 0)
        self.assert_bad("store 20 5 1\nmachine 3,2,0\nmachine 3,2\nmachines", 2)
        self.assert_bad("store 20 5 1\nmachine 3,2,0 4,5,06\nmachines", 1)

    def test_rows_ahead_of_the_world(self):
        self.assert_bad("store 0 5 1\nmachine 3,2", 1)
        self.assert_bad("store 20 5 1\nmachine 99,2,0\nmachine 3,2", 2)
        self.assert_bad("store 20 5 1" + "\nmachine" * 9 + "\n", 10)
        self.assert_bad("store 20 5 1\nmachine" + " 3,2,0" * 9 + " ", 1)

    def test_a_store_that_cannot_be(self):
        for row in ("store 0 0 0", "store 20 21 1", "store 20 5 10", "store 5 99 1"):
            self.assertEqual(refusal(read, row), ("BadStore", {}))
            self.assertEqual(refusal(read, row + "\nmachine 99,99,99"), ("BadStore", {}))

    def test_a_step_that_cannot_be(self):
        for step in ("21,1,0", "3,0,0", "3,10,0", "3,99,0", "3,1,4"):
            self.assertEqual(refusal(read, "store 20 5 1\nmachine " + step), bad_step(0, 0))
            text = f"store 20 5 1\nmachine\nmachine 3,2,0 {step} {step}\nmachine {step}"
            self.assertEqual(refusal(read, text), bad_step(1, 1))

    def test_too_many_machines_or_steps(self):
        self.assertEqual(refusal(read, "store 20 5 1" + "\nmachine" * 6), bad_step(5, 0))
        self.assertEqual(refusal(read, "store 20 5 1" + "\nmachine" * 9), bad_step(5, 0))
        self.assertEqual(refusal(read, "store 20 5 1\nmachine\nmachine" + " 3,2,0" * 7), bad_step(1, 6))


if __name__ == "__main__":
    unittest.main()
