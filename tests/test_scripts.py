"""Scripts: points 29 and 30."""

import unittest

from seerings.cards import Card
from seerings.drawers import Drawer
from seerings.errors import ExecutionFailed, ScriptError, TooLong
from seerings.scripts import run_script

from tests import examples, reference
from tests.made import Dice, plain, some_card, some_drawers

NO_ROWS = (
    "", " ", "go", "Take 0", "take", "take ", " take 0", "take  0", "take 0 ", "take 0 1", "take a", "take -1", "take +1",
    "take 00", "take 01", "take 100", "take \u0663", "take \u00b2", "take 1.", "take\t0", "take 0\r", "moved 0 1",
    "shift 0", "shift 0 1 2", "shift 0 01", "shift 00 1", "shift 0 100", "shift a b", "shift 0  1",
    "file 0", "file ", "file_all", "put", "put 0", "put 0 ", "put card a", "put 0 bus", "put 00 card a", "put 100 card a",
    "put 0 card", "put 0 card A", "put 0 card a 0", "put 0 card a 2 2", "put 0 card a also", "put 0 card a also 3",
    "put 0 see a", "put 0 see a B", "put 0 see a b c", "put 0 card a ", "put 0  card a", "put card 0 a",
    "use", "use all", "use all a b", "use a", "use ALL a", "use all A", "use broad a", "use all ", "use  a",
    "find", "find leaf", "find a leaf", "find leaf a entry", "find leaf abcdefghi", "repeat", "repeat 00", "repeat 07",
    "repeat 100", "repeat a", "repeat 2 3", "repeat -1", "when", "when all a", "when all a found", "when all a entry lost",
    "when a all entry", "when all A entry", "when broad a entry", "when all a ENTRY", "end 1", "end ", "End", "use all a1",
)


def run(drawer, *rows):
    return run_script(drawer, "\n".join(rows))


class ExampleTest(unittest.TestCase):

    def test_examples(self):
        examples.run(self, """
>>> from seerings.cards import Card
>>> from seerings.drawers import Drawer
>>> from seerings.scripts import run_script
>>> drawer = Drawer((Card("tram", books=(1,)), Card("bus", also=("tram",)), Card("rail", see="tram")))
>>> lines = ["use all rail", "find all bus", "when all ship lost", "put 0 card ship", "end"]
>>> later, output = run_script(drawer, "\\n".join(lines + ["repeat 2", "take 0", "end", "file"]))
>>> [later[0].heading, later.headings, output]
['bus', ('bus', 'tram'), ['3', 'entry']]
""")
        examples.run(self, """
>>> from seerings.drawers import Drawer
>>> from seerings.scripts import run_script
>>> run_script(Drawer(()), "take 9")
raises ExecutionFailed(row=0)
""")


class RowsTest(unittest.TestCase):

    def test_the_empty_text(self):
        self.assertEqual(run_script(plain("ba"), ""), (plain("ba"), []))

    def test_put(self):
        for place, text in ((0, "xab"), (1, "axb"), (2, "abx")):
            self.assertEqual(run(plain("ab"), f"put {place} card x"), (plain(text), []))
        cards = (Card("bus", (3, 40), "", ("also", "tram")), Card("see", see="card"))
        told = run(Drawer(()), "put 0 see see card", "put 0 card bus 3 40 also also tram")
        self.assertEqual(told, (Drawer(cards), []))

    def test_put_at_places_of_two_digits(self):
        drawer, _ = run(plain("a" * 15), "put 10 card x", "take 0", "put 15 card y")
        self.assertEqual(drawer, plain("a" * 9 + "x" + "a" * 5 + "y"))

    def test_take(self):
        for place, text in ((0, "bc"), (1, "ac"), (2, "ab")):
            self.assertEqual(run(plain("abc"), f"take {place}"), (plain(text), []))
        self.assertEqual(run(plain("a" * 11 + "b"), "take 11"), (plain("a" * 11), []))

    def test_shift(self):
        for place, other, text in ((0, 2, "bca"), (2, 0, "cab"), (1, 1, "abc")):
            self.assertEqual(run(plain("abc"), f"shift {place} {other}"), (plain(text), []))
        self.assertEqual(run(plain("x" + "a" * 15), "shift 0 15")[0], plain("a" * 15 + "x"))

    def test_file(self):
        self.assertEqual(run(plain("cab"), "file"), (plain("abc"), []))
        drawer = Drawer((Card("b", (2,)), Card("b", (1,)), Card("a")))
        self.assertEqual(run(drawer, "file"), (drawer.moved(2, 0), []))

    def test_use(self):
        for rule, looks in (("all", "3"), ("leaf", "3"), ("half", "2")):
            self.assertEqual(run(plain("abc"), f"use {rule} c"), (plain("cab"), [looks]))
        self.assertEqual(run(plain("abc"), "use all x", "use all a"), (plain("abc"), ["3", "1"]))
        self.assertEqual(run(Drawer(()), "use all x"), (Drawer(()), ["0"]))
        self.assertEqual(run(plain("b" * 15 + "a"), "use all a")[1], ["16"])

    def test_use_looks_up_only_once(self):
        drawer = Drawer((Card("b"), Card("a", see="b")))
        self.assertEqual(run(drawer, "use all a"), (drawer.moved(1, 0), ["2"]))

    def test_find(self):
        drawer = Drawer((Card("c", see="b"), Card("b", see="c"), Card("a", see="d"), Card("d")))
        told = run(drawer, "find all a", "find leaf a", "find all b", "find all x", "find half d")
        self.assertEqual(told, (drawer, ["entry", "lost", "ring", "lost", "entry"]))

    def test_repeat(self):
        for number in (0, 1, 2, 9, 10, 99):
            later, output = run(plain("ab"), f"repeat {number}", "use all b", "end", "find all a")
            self.assertEqual(output, ["2", *["1"] * (number - 1)][:number] + ["entry"])
        self.assertEqual(run(plain("ab"), "repeat 7", "end"), (plain("ab"), []))
        self.assertEqual(run(plain("ab"), "repeat 0", "take 9", "end"), (plain("ab"), []))

    def test_when(self):
        drawer = Drawer((Card("c", see="b"), Card("b", see="c"), Card("a", see="d"), Card("d")))
        for heading, ending in (("a", "entry"), ("b", "ring"), ("x", "lost")):
            for word in ("entry", "ring", "lost"):
                later, output = run(drawer, f"when all {heading} {word}", "take 0", "use all d", "end", "find all d")
                self.assertEqual(later == drawer, word != ending)
                self.assertEqual(output, ["3", "entry"] if word == ending else ["entry"])
        self.assertEqual(run(drawer, "when half a lost", "take 3", "end")[0], drawer.without((3,)))
        self.assertEqual(run(drawer, "when all a entry", "end"), (drawer, []))

    def test_blocks_look_at_the_drawer_as_it_is_then(self):
        rows = ("repeat 3", "when all a entry", "take 0", "end", "when all a lost", "put 0 card a", "end", "end")
        self.assertEqual(run(plain("a"), *rows[:4], "end")[0], Drawer(()))
        self.assertEqual(run(plain("a"), *rows), (plain("a"), []))

    def test_blocks_in_blocks(self):
        rows = ("repeat 2", "repeat 3", "when all a entry", "use all b", "end", "end", "find all b", "end", "take 0")
        told = run(plain("ab"), *rows)
        self.assertEqual(told, (plain("a"), ["2", "1", "1", "entry", "1", "1", "1", "entry"]))

    def test_blocks_behind_one_another(self):
        rows = []
        for _ in range(10):
            rows += ["repeat 1", "use all a", "end"]
        self.assertEqual(run(plain("a"), *rows), (plain("a"), ["1"] * 10))

    def test_headings_that_are_called_like_first_words(self):
        drawer = Drawer((Card("end"), Card("repeat", see="when")))
        rows = ("put 2 see when end", "use all end", "repeat 1", "find all repeat", "end", "put 0 card put", "find all when")
        self.assertEqual(run(drawer, *rows)[1], ["1", "entry", "entry"])
        self.assertEqual(run(drawer, "when all end entry", "take 0", "end")[0], drawer.without((0,)))

    def test_the_drawer_that_was_handed_in_stays_as_it_is(self):
        drawer = plain("cab")
        run(drawer, "take 0", "file", "put 0 card x")
        self.assertEqual(drawer, plain("cab"))

    def test_the_output_may_be_modified(self):
        run(plain("a"), "use all a")[1].clear()
        self.assertEqual(run(plain("a"), "use all a")[1], ["1"])


class ScriptErrorTest(unittest.TestCase):

    def check(self, row, *rows):
        with self.assertRaises(ScriptError) as caught:
            run(plain("ab"), *rows)
        self.assertEqual(caught.exception.row, row, rows)

    def test_what_is_no_row(self):
        for wrong in NO_ROWS:
            if wrong:
                self.check(0, wrong)
            self.check(0, wrong, "take 9")
            self.check(2, "file", "take 9", wrong)
            self.check(1, "repeat 0", wrong, "end")

    def test_empty_rows(self):
        self.check(0, "", "")
        self.check(1, "file", "")
        self.check(0, "", "file")

    def test_an_end_without_a_block(self):
        self.check(0, "end")
        self.check(3, "repeat 1", "file", "end", "end", "go")
        self.check(1, "file", "end", "repeat 2", "end")

    def test_an_end_that_is_missing(self):
        self.check(1, "repeat 1")
        self.check(1, "when all a lost")
        self.check(3, "repeat 1", "take 9", "file")
        self.check(4, "repeat 1", "when all a entry", "end", "file")

    def test_four_blocks_deep_and_five(self):
        for word in ("repeat 1", "when all a entry"):
            rows = ["repeat 1", "when all a entry", "repeat 2", word]
            self.assertEqual(run(plain("a"), *rows, "use all a", *["end"] * 4)[1], ["1", "1"])
            for fifth in ("repeat 0", "when all a lost"):
                self.check(4, *rows, fifth, "end", *["end"] * 4)
                self.check(4, *rows, fifth)
                self.check(5, *rows, "file", fifth, "go")
                self.check(6, *rows, "end", word, fifth, "end")

    def test_many_blocks_that_are_not_deep(self):
        rows = ["repeat 0", "end"] * 30
        self.assertEqual(run(plain("ab"), *rows), (plain("ab"), []))

    def test_sixty_rows_and_sixty_one(self):
        self.assertEqual(run(plain("ba"), *["file"] * 60), (plain("ab"), []))
        for last in ("file", "go", "", "end", "repeat 2"):
            self.check(60, *["file"] * 60, last)
            self.check(60, *["file"] * 60, last, "go")
        self.check(60, "repeat 0", *["file"] * 59, "end")
        self.check(60, "repeat 0", *["file"] * 59)
        self.check(59, *["file"] * 59, "go", "file", "file")
        self.check(59, *["file"] * 59, "end", "file")

    def test_of_several_faults_the_first_row(self):
        self.check(1, "repeat 1", "go", "end", "end")
        self.check(2, "repeat 1", "end", "end", "go")
        self.check(1, "repeat 2", "take 001")

    def test_ahead_of_every_row_that_is_executed(self):
        self.check(1, "take 9", "go")
        self.check(6, "repeat 99", "repeat 99", "file", "end", "end", "take 9", "end")


class ExecutionFailedTest(unittest.TestCase):

    def check(self, row, drawer, *rows):
        with self.assertRaises(ExecutionFailed) as caught:
            run(drawer, *rows)
        self.assertEqual(caught.exception.row, row, rows)

    def test_each_kind_of_row(self):
        drawer = plain("ab")
        for wrong in (
            "put 3 card a", "put 99 card a", "take 2", "take 99", "shift 2 0", "shift 0 2", "put 0 see a a",
            "put 0 card a 1 2 3 4 5 6 7", "put 0 card a also a", "put 0 card a also b b", "put 0 card a also b c d e f",
        ):
            self.check(0, drawer, wrong)
            self.check(1, drawer, "file", wrong, "file")
            self.check(3, drawer, "repeat 2", "end", "repeat 1", wrong, "end")
            self.check(2, drawer, "when all a entry", "file", wrong, "end")
            self.check(4, drawer, "repeat 1", "when all a lost", wrong, "end", wrong, "end")

    def test_a_full_drawer(self):
        self.check(1, plain("a" * 15), "put 15 card b", "put 16 card c")
        self.check(0, plain("a" * 16), "put 0 card b")
        self.check(1, plain("a" * 10), "repeat 7", "put 0 card b", "end")

    def test_no_cards(self):
        for row in ("take 0", "shift 0 0", "put 1 card a"):
            self.check(0, Drawer(()), row)

    def test_in_a_later_round(self):
        self.check(1, plain("ab"), "repeat 3", "take 0", "end")
        self.check(2, plain("ab"), "repeat 3", "use all b", "take 0", "end")

    def test_a_row_that_would_fail_but_is_not_executed(self):
        drawer = plain("ab")
        for row in ("take 9", "put 0 see a a", "shift 9 9"):
            self.assertEqual(run(drawer, "repeat 0", row, "end"), (drawer, []))
            self.assertEqual(run(drawer, "when all a lost", row, "end"), (drawer, []))
            self.assertEqual(run(drawer, "when all x entry", "repeat 2", row, "end", "end", "use all a")[1], ["1"])

    def test_nothing_is_changed(self):
        drawer = plain("ba")
        self.check(1, drawer, "file", "take 9")
        self.assertEqual(drawer, plain("ba"))


class TooLongTest(unittest.TestCase):

    def check_steps(self, steps, *rows):
        """Check how many steps rows are: so many more can stand ahead of the 301st one."""
        blocks = ["repeat 99", "end"] * ((299 - steps) // 100)
        left = 300 - steps - 50 * len(blocks)
        ahead = blocks + ([f"repeat {left - 1}", "end"] if left > 1 else ["file"] * left)
        run(plain("ab"), *ahead, *rows)
        with self.assertRaises(TooLong):
            run(plain("ab"), *ahead, *rows, "file")
        with self.assertRaises(TooLong):
            run(plain("ab"), "file", *ahead, *rows)

    def test_each_row_is_a_step(self):
        for row in ("put 0 card a", "take 0", "shift 0 1", "file", "use all a", "use all x", "find half x"):
            self.check_steps(1, row)

    def test_blocks(self):
        self.check_steps(1, "repeat 0", "end")
        self.check_steps(1, "repeat 0", "file", "file", "end")
        self.check_steps(2, "repeat 1", "end")
        self.check_steps(8, "repeat 7", "end")
        self.check_steps(7, "repeat 3", "file", "end")
        self.check_steps(10, "repeat 3", "file", "file", "end")
        self.check_steps(1, "when all a entry", "end")
        self.check_steps(2, "when all a entry", "file", "end")
        self.check_steps(1, "when all a lost", "file", "end")
        self.check_steps(1 + 2 * (1 + 1 + 3 * 2), "repeat 2", "repeat 3", "file", "end", "end")
        self.check_steps(1 + 2 * (1 + 1 + 1), "repeat 2", "when all a entry", "file", "end", "end")
        self.check_steps(1 + 5 * 2, "repeat 5", "repeat 0", "end", "end")

    def test_just_three_hundred_steps(self):
        rows = ["repeat 99", "end"] * 3
        self.assertEqual(run(plain("ba"), *rows), (plain("ba"), []))
        with self.assertRaises(TooLong):
            run(plain("ba"), *rows, "file")
        self.assertEqual(len(run(plain("a"), "repeat 99", "find all a", "find all a", "end", "file", "file")[1]), 198)

    def test_the_301st_step_is_a_round(self):
        rows = ["repeat 99", "end"] * 2 + ["repeat 98", "end", "repeat 1", "end"]
        with self.assertRaises(TooLong):
            run(plain("ba"), *rows)

    def test_a_row_that_would_fail_as_the_301st_step(self):
        rows = ["repeat 99", "end"] * 3
        for row in ("take 9", "put 0 see a a", "shift 9 9"):
            with self.assertRaises(TooLong):
                run(plain("ba"), *rows, row)
            with self.assertRaises(ExecutionFailed) as caught:
                run(plain("ba"), *rows[:-2], "repeat 98", "end", row, "file")
            self.assertEqual(caught.exception.row, 6)

    def test_much_too_long(self):
        rows = ["repeat 99"] * 4
        with self.assertRaises(TooLong):
            run(plain("ba"), *rows, "file", *["end"] * 4)


class ReferenceTest(unittest.TestCase):

    def some_row(self, dice):
        kind = dice.throw(10)
        rule, heading = ("all", "leaf", "half")[dice.throw(3)], "abcde"[dice.throw(5)]
        if kind < 3:
            card = some_card(dice, "abcd")
            words = ["see", card.heading, card.see] if card.leads else ["card", card.heading, *map(str, card.books)]
            words += ["also", *card.also] if card.also else []
            return " ".join(["put", str(dice.throw(4)), *words])
        if kind == 3:
            return f"take {dice.throw(5)}"
        if kind == 4:
            return f"shift {dice.throw(4)} {dice.throw(4)}"
        return ("file", f"use {rule} {heading}", f"find {rule} {heading}")[dice.throw(3)]

    def some_rows(self, dice, depth):
        rows = []
        for _ in range(1 + dice.throw(4)):
            kind = dice.throw(5)
            if kind > 1 or depth == 4:
                rows.append(self.some_row(dice))
                continue
            rule, word = ("all", "leaf", "half")[dice.throw(3)], ("entry", "lost", "ring")[dice.throw(3)]
            head = f"repeat {dice.throw(25)}" if kind == 0 else f"when {rule} {'abcde'[dice.throw(5)]} {word}"
            rows += [head, *self.some_rows(dice, depth + 1), "end"]
        return rows

    def test_against_the_reference(self):
        dice = Dice(21)
        ends = {"long": 0, "failed": 0, "done": 0}
        for drawer in some_drawers(400, 10, "abcd"):
            rows = self.some_rows(dice, 0)
            while len(rows) > 60:
                rows = self.some_rows(dice, 0)
            script = reference.Script(drawer, "\n".join(rows))
            try:
                script.run(0, len(rows))
            except reference.Stopped as stopped:
                if stopped.args == ("long",):
                    ends["long"] += 1
                    with self.assertRaises(TooLong):
                        run(drawer, *rows)
                else:
                    ends["failed"] += 1
                    with self.assertRaises(ExecutionFailed) as caught:
                        run(drawer, *rows)
                    self.assertEqual((caught.exception.row,), stopped.args)
            else:
                ends["done"] += 1
                self.assertEqual(run(drawer, *rows), (Drawer(tuple(script.cards)), script.output))
        self.assertGreater(min(ends.values()), 3, ends)


if __name__ == "__main__":
    unittest.main()
