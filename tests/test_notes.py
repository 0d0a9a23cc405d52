"""Promises 18 and 19 (point 15): texts of gates, written and read, and texts that are refused."""

import random
import re
import unittest

from gatehands.building import bits, pair, tower
from gatehands.errors import BadGate, BadText, GateError
from gatehands.gates import Gate
from gatehands.notes import read, written
from tests.some_gates import IDLE, IN, counted, flags, one_line, some_boxes, some_hand, unguarded

NUMBER = "(0|[1-9][0-9]?)"
ROWS = [re.compile(form.replace("N", NUMBER)) for form in (
    "box N N", "hand N", "put N N", "go N to N", "go N to N if N(?: N)*", "in",
)]
FIRST = "box 0 1\nbox 1 9\nhand 2\ngo 0 to 1\nput 1 7\ngo 0 to 2 if 0 1\nin\nput 0 0\nhand 1\ngo 1 to 1 if 3\nin"


def first_gate():
    return Gate([(0, 1), (1, 9)], [
        (2, [("go", 0, (), 1), ("put", 1, 7), ("go", 0, (0, 1), 2), IN, ("put", 0, 0)]),
        (1, [("go", 1, (3,), 1), IN]),
    ])


def largest_gate():
    """All counts and numbers of a gate as great as they can be, of two figures where there are such."""
    boxes = [(9, 9)] * 12
    steps = [("put", 11, 9), ("go", 10, tuple(range(10)), 23), ("go", 11, (), 10)] + [IDLE] * 20 + [IN]
    return Gate(boxes, [(23, steps)] * 4)


def any_gate(chance):
    boxes = some_boxes(chance, chance.randint(1, 12), 9)
    return Gate(boxes, [some_hand(chance, boxes, 2, 24) for hand in range(chance.randint(1, 4))])


def row_told(text):
    """The number of the first row that isn't so; None if all are."""
    hands = 0
    for number, row in enumerate(text.split("\n")):
        word = row.split(" ")[0]
        if not any(form.fullmatch(row) for form in ROWS):
            return number
        if (word == "box" and hands > 0) or (word not in ("box", "hand") and hands == 0):
            return number
        hands += word == "hand"
    return None


def gate_told(text):
    """Boxes and hands of a text of good rows."""
    boxes, hands = [], []
    for row in text.split("\n"):
        numbers = [int(number) for number in re.findall("[0-9]+", row)]
        if row.startswith("box"):
            boxes.append(tuple(numbers))
        elif row.startswith("hand"):
            hands.append((numbers[0], []))
        elif row.startswith("put"):
            hands[-1][1].append(("put", *numbers))
        elif row.startswith("go"):
            box, at, *rest = numbers
            hands[-1][1].append(("go", box, tuple(rest), at))
        else:
            hands[-1][1].append(IN)
    return boxes, hands


class NotesTest(unittest.TestCase):

    def bad_text(self, text, row):
        with self.assertRaises(GateError, msg=text) as caught:
            read(text)
        self.assertIs(type(caught.exception), BadText, text)
        self.assertEqual(caught.exception.row, row, text)

    def bad_gate(self, text, why, hand, step):
        with self.assertRaises(GateError, msg=text) as caught:
            read(text)
        self.assertIs(type(caught.exception), BadGate, text)
        found = caught.exception
        self.assertEqual((found.why, found.hand, found.step), (why, hand, step), text)

    def same(self, gate):
        text = written(gate)
        again = read(text)
        self.assertIs(type(again), Gate)
        self.assertEqual(repr((again.boxes(), again.hands())), repr((gate.boxes(), gate.hands())))
        self.assertEqual(written(again), text)


class Written(NotesTest):

    def test_row_by_row(self):
        self.assertEqual(written(first_gate()), FIRST)
        self.assertEqual(written(one_line()), "box 0 1\nhand 1\nput 0 1\ngo 0 to 1\ngo 0 to 1\nin\nput 0 0")

    def test_numbers_of_two_figures(self):
        rows = written(largest_gate()).split("\n")
        self.assertEqual(rows[:12], ["box 9 9"] * 12)
        self.assertEqual(rows[12:16], ["hand 23", "put 11 9", "go 10 to 23 if 0 1 2 3 4 5 6 7 8 9", "go 11 to 10"])
        self.assertEqual(len(rows), 12 + 4 * 25)

    def test_one_hand_to_four(self):
        for many in range(1, 5):
            hand = "hand 1\ngo 0 to 1\ngo 0 to 1\nin"
            self.assertEqual(written(unguarded(many)), "\n".join(["box 0 0"] + [hand] * many))

    def test_many_gates(self):
        chance = random.Random(180)
        for number in range(300):
            gate = any_gate(chance)
            text = written(gate)
            self.assertIsNone(row_told(text))
            self.assertEqual(gate_told(text), (gate.boxes(), gate.hands()))


class Read(NotesTest):

    def test_row_by_row(self):
        gate = read(FIRST)
        self.assertEqual((gate.boxes(), gate.hands()), (first_gate().boxes(), first_gate().hands()))
        gate = read("box 0 0\nhand 1\ngo 0 to 1\nin")
        self.assertEqual(repr((gate.boxes(), gate.hands())), repr(([(0, 0)], [(1, [IDLE, IN])])))

    def test_what_is_written_is_read_to_the_same_gate(self):
        for gate in (first_gate(), largest_gate(), pair(), tower(), bits(2), bits(3), bits(4), flags(4), counted(2)):
            self.same(gate)
        for many in range(1, 5):
            self.same(unguarded(many))

    def test_many_gates(self):
        chance = random.Random(181)
        for number in range(300):
            self.same(any_gate(chance))

    def test_what_is_given_back_may_be_changed(self):
        gate = read(FIRST)
        gate.boxes().clear()
        gate.hands()[0][1].append(IN)
        self.assertEqual(written(gate), FIRST)
        self.assertEqual(written(read(FIRST)), FIRST)


class BadRows(NotesTest):

    def each(self, rows):
        """Each row in the place of each one of a good text, where it is the first bad one, and behind all."""
        good = FIRST.split("\n")
        for row in rows:
            for number in range(len(good)):
                self.bad_text("\n".join(good[:number] + [row] + good[number + 1:]), number)
                self.bad_text("\n".join(good[:number] + [row] + good[number:]), number)
            self.bad_text(FIRST + "\n" + row, len(good))
            self.bad_text(row, 0)

    def test_empty_rows(self):
        self.each(["", " ", "  "])
        self.bad_text("", 0)
        self.bad_text("\n", 0)
        self.bad_text("\n" + FIRST, 0)
        self.bad_text(FIRST + "\n", FIRST.count("\n") + 1)

    def test_blanks(self):
        self.each(["put  0 0", "put 0  0", "put 0 0 ", " put 0 0", "in ", " in", "box 0  1", "box 0 1 ", " hand 1",
                   "hand  1", "hand 1 ", "go 0 to 1 ", "go 0  to 1", "go 0 to  1", "go 0 to 1  if 0", "go 0 to 1 if  0",
                   "go 0 to 1 if 0 ", "go 0 to 1 if 0  1", "go 0 to 1 if ", "put\t0\t0", "put 0\t0", "in\t", "put\xa00 0",
                   "put 0\u30000"])

    def test_other_ends_of_rows(self):
        self.each(["in\r", "put 0 0\r", "\r", "\rin", "in\x0b", "in\x0c", "in\x85", "in\u2028", "hand 1\x1c"])
        self.bad_text(FIRST.replace("\n", "\r\n"), 0)
        self.bad_text(FIRST.replace("\n", "\r"), 0)

    def test_figures(self):
        for number in ("00", "01", "007", "000", "100", "123", "-1", "+1", "-0", "1.", "1.0", "1_0", "1e1", "0x1", "a",
                       "1a", "", "#", "\u0661", "\u00b2", "\uff11", "\u0be7", "1\u0661", "\u2155", "\U0001d7ce", "_1",
                       "'1'", "1,"):
            self.each([f"box {number} 1", f"box 0 {number}", f"hand {number}", f"put {number} 0", f"put 0 {number}",
                       f"go {number} to 1", f"go 0 to {number}", f"go {number} to 1 if 0", f"go 0 to {number} if 0",
                       f"go 0 to 1 if {number}", f"go 0 to 1 if {number} 1", f"go 0 to 1 if 0 {number}",
                       f"go 0 to 1 if 0 {number} 1"])

    def test_words_too_many_or_too_few(self):
        self.each(["box", "box 0", "box 0 1 1", "hand", "hand 1 1", "put", "put 0", "put 0 0 0", "in 0", "in in", "go",
                   "go 0", "go 0 to", "go 0 1", "go to 1", "go 0 to 1 0", "go 0 to 1 if", "go 0 to if 0", "go 0 if 0",
                   "go 0 to 1 0 if", "go 0 to 1 if if 0", "go 0 to 1 if 0 if 1", "go 0 to 1 if 0 in", "go 0 to to 1",
                   "go 0 to 1 to 1", "in put 0 0"])

    def test_other_words(self):
        self.each(["Box 0 1", "BOX 0 1", "boxes 0 1", "b 0 1", "hands 1", "Hand 1", "Put 0 0", "get 0 0", "IN", "In",
                   "out", "within", "Go 0 to 1", "go 0 TO 1", "go 0 at 1", "go 0 to 1 If 0", "go 0 to 1 for 0", "0",
                   "0 1", "to", "if", "# hand", "None", "none 0 0", "go 0 to 1 and 0", "go 0 on 1 if 0"])

    def test_a_box_behind_a_hand(self):
        self.bad_text("box 0 1\nhand 1\nbox 0 1\ngo 0 to 1\nin", 2)
        self.bad_text("hand 1\nbox 0 1\ngo 0 to 1\nin", 1)
        self.bad_text("box 0 1\nhand 1\ngo 0 to 1\nin\nbox 0 1", 4)
        self.bad_text("hand 0\nbox 9 0\nbox", 1)

    def test_a_step_ahead_of_all_hands(self):
        for step in ("put 0 0", "go 0 to 1", "go 0 to 1 if 0", "in"):
            self.bad_text(step, 0)
            self.bad_text(f"{step}\nbox 0 1\nhand 1\ngo 0 to 1\nin", 0)
            self.bad_text(f"box 0 1\n{step}\nhand 1\ngo 0 to 1\nin", 1)
            self.bad_text(f"box 0 1\nbox 0 1\n{step}", 2)

    def test_the_first_row_of_several(self):
        self.bad_text("box 0 1\nput 0 0\nhand 01", 1)
        self.bad_text("box 0 1\nhand 01\nbox 0 1", 1)
        self.bad_text("box 0 1\nhand 1\ngo 0 to 1\nbox 0 1\n", 3)
        self.bad_text("box 0 1\nhand 1\ngo 0 to 1\nin \nbox 0 1", 3)

    def test_ahead_of_what_no_gate_can_be(self):
        self.bad_text("box 9 0\nhand 0\nput 99 99\nout", 3)
        self.bad_text("hand 1\nin\nin\n", 3)
        self.bad_text("\n".join(["box 0 0"] * 13 + ["in"]), 13)


class BadGates(NotesTest):

    def test_each_reason(self):
        hand = "\nhand 1\ngo 0 to 1\nin"
        self.bad_gate("hand 1\ngo 0 to 1\nin", "boxes", 0, 0)
        self.bad_gate("\n".join(["box 0 0"] * 13) + hand, "boxes", 0, 0)
        self.bad_gate("box 0 0\nbox 1 0" + hand, "box", 0, 1)
        self.bad_gate("box 0 10" + hand, "box", 0, 0)
        self.bad_gate("box 0 99\nbox 99 0" + hand, "box", 0, 0)
        self.bad_gate("box 0 0", "hands", 0, 0)
        self.bad_gate("box 0 0" + hand * 5, "hands", 0, 0)
        self.bad_gate("box 0 0\nhand 1", "steps", 0, 0)
        self.bad_gate("box 0 0" + hand + "\nhand 1\nin", "steps", 1, 0)
        self.bad_gate("box 0 0\nhand 1" + "\ngo 0 to 1" * 24 + "\nin", "steps", 0, 0)
        self.bad_gate("box 0 0" + hand * 2 + "\nput 0 1", "step", 1, 2)
        self.bad_gate("box 0 0\nhand 1\nput 1 0\nin", "step", 0, 0)
        self.bad_gate("box 0 0\nhand 1\nput 99 0\nin", "step", 0, 0)
        self.bad_gate("box 0 0\nhand 1\ngo 0 to 0\nin", "step", 0, 0)
        self.bad_gate("box 0 0\nhand 1\ngo 0 to 2\nin", "step", 0, 0)
        self.bad_gate("box 0 9\nhand 1\ngo 0 to 1\nin\ngo 0 to 2 if 3 3", "step", 0, 2)
        self.bad_gate("box 0 9\nhand 1\ngo 0 to 1\nin\ngo 0 to 2 if 4 3", "step", 0, 2)
        self.bad_gate("box 0 9\nhand 1\ngo 0 to 1\nin\ngo 0 to 2 if 9 10", "step", 0, 2)
        self.bad_gate("box 0 0\nhand 1\nin\ngo 0 to 1", "in", 0, 0)
        self.bad_gate("box 0 0\nhand 1\ngo 0 to 1\ngo 0 to 1", "in", 0, 0)
        self.bad_gate("box 0 0\nhand 1\ngo 0 to 1\nin\nin", "in", 0, 0)
        self.bad_gate("box 0 0\nhand 0\ngo 0 to 1\nin", "knock", 0, 0)
        self.bad_gate("box 0 0\nhand 2\ngo 0 to 1\nin", "knock", 0, 0)
        self.bad_gate("box 0 0" + hand * 3 + "\nhand 99\ngo 0 to 1\nin", "knock", 3, 0)

    def test_reasons_in_their_order(self):
        self.bad_gate("box 1 0", "box", 0, 0)
        self.bad_gate("box 0 0\nhand 9\nin", "steps", 0, 0)
        self.bad_gate("box 0 0\nhand 9\nin\nput 5 5\nput 6 6", "step", 0, 1)
        self.bad_gate("box 0 0\nhand 9\nin\nput 0 0\nhand 1\nin", "in", 0, 0)

    def test_long_texts(self):
        self.bad_gate("\n".join(["box 0 0"] * 5000), "boxes", 0, 0)
        self.bad_gate("box 0 9\nhand 1\ngo 0 to 1 if " + " ".join(["1"] * 5000) + "\nin", "step", 0, 0)


class AnyTexts(NotesTest):

    def changed(self, chance, text):
        signs = "0123456789 \n\n  boxhandputgotoifin\tX-"
        for number in range(chance.randint(1, 2)):
            at = chance.randrange(len(text) + 1)
            more = chance.choice(("", chance.choice(signs), chance.choice(signs)))
            text = text[:at] + more + text[at + chance.randint(0, 1):]
        if chance.random() < 0.3:
            rows = text.split("\n")
            rows.insert(chance.randrange(len(rows) + 1), rows.pop(chance.randrange(len(rows))))
            text = "\n".join(rows)
        return text

    def test_many_texts(self):
        chance = random.Random(190)
        seen = {"text": 0, "gate": 0, "none": 0}
        texts = [FIRST] + [written(gate) for gate in (pair(), flags(2), one_line(), unguarded(2))]
        for number in range(4000):
            text = self.changed(chance, chance.choice(texts))
            row = row_told(text)
            if row is not None:
                self.bad_text(text, row)
                seen["text"] += 1
                continue
            boxes, hands = gate_told(text)
            try:
                gate = Gate(boxes, hands)
            except BadGate as error:
                self.bad_gate(text, error.why, error.hand, error.step)
                seen["gate"] += 1
            else:
                self.assertEqual((read(text).boxes(), read(text).hands()), (boxes, hands))
                self.assertEqual(written(gate), text)
                seen["none"] += 1
        self.assertGreater(min(seen.values()), 100)


if __name__ == "__main__":
    unittest.main()
