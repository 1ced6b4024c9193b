"""Point 47: values and letters as texts."""

import random
import unittest

from vaultbridge.errors import BadNotation
from vaultbridge.letters import is_letter
from vaultbridge.notation import read, read_letter, write

SIGNS = "0123456789:,()- ab~"
TRANSFER = ("gold", 2, 1, "ann", "ben", 50)
LETTERS = [
    ("deliver", "west", 0, TRANSFER), ("return", "east", 12, TRANSFER), ("cancel", "west", 3, TRANSFER),
    ("bundle", "east", 4, (TRANSFER,) * 8), ("rotate", "both", 1, (("g1", 1), ("g2", 10 ** 39))),
    ("stop", "west", 0, ()), ("resume", "east", 7, ()), ("deliver", "east", 1, ("", 1, 0, "(", ",", 0)),
    ("deliver", "east", 1, ("3:a", 1, 0, " ", "-5", 0)),
]


def told_form(value):
    """A second telling of the written form."""
    if type(value) is tuple:
        return "(" + ",".join(told_form(part) for part in value) + ")"
    return f"{len(value)}:{value}" if type(value) is str else repr(value)


def nested(depth, value=()):
    """A tuple that is nested as deep as this."""
    for _ in range(depth - 1):
        value = (value,)
    return value


def drawn_value(source, depth=10):
    """A value within all bounds, nested at most `depth` deep."""
    kind = source.choice(["integer", "text", "tuple", "tuple", "deep"])
    if kind == "integer" or depth == 0:
        size = source.choice([1, 10, 11, 10 ** 9, 10 ** 20, 10 ** 40])
        return source.choice([1, -1]) * source.randrange(size)
    if kind == "text":
        return "".join(source.choice(SIGNS) for _ in range(source.choice([0, 1, 2, 5, 12, 120])))
    if kind == "deep":
        return nested(source.randint(1, depth))
    return tuple(drawn_value(source, depth - 1) for _ in range(source.randint(0, 4)))


def same_kinds(one, other):
    """True if two equal values consist of the same kinds of parts."""
    if type(one) is not type(other):
        return False
    return not isinstance(one, tuple) or all(same_kinds(*pair) for pair in zip(one, other))


def within(value, depth=10):
    """True if a value keeps to the bounds of reading."""
    if type(value) is tuple:
        return depth > 0 and all(within(part, depth - 1) for part in value)
    return type(value) is str or abs(value) < 10 ** 40


class NotationCase(unittest.TestCase):

    def check_both_ways(self, value):
        text = told_form(value)
        self.assertEqual(write(value), text)
        self.assertEqual(read(text), value)
        self.assertTrue(same_kinds(read(text), value))

    def refuses(self, text, reading=read):
        with self.assertRaises(BadNotation, msg=text) as held:
            reading(text)
        self.assertIs(type(held.exception), BadNotation)


class WriteAndReadTest(NotationCase):

    def test_the_example(self):
        self.assertEqual(write(("pay", -5, (), "a b")), "(3:pay,-5,(),3:a b)")
        self.assertEqual(read("(3:pay,-5,(),3:a b)"), ("pay", -5, (), "a b"))

    def test_by_hand(self):
        for value, text in ((0, "0"), (7, "7"), (-7, "-7"), (10, "10"), (-100, "-100"), ("", "0:"), ("0", "1:0"),
                            (":", "1::"), ("1:a", "3:1:a"), ("a,b)", "4:a,b)"), ("x" * 10, "10:xxxxxxxxxx"), ((), "()"),
                            (((),), "(())"), ((0,), "(0)"), (("",), "(0:)"), (("", ""), "(0:,0:)"),
                            ((1, (2, (3, "4")), "(5"), "(1,(2,(3,1:4)),2:(5)")):
            self.assertEqual(write(value), text)
            self.check_both_ways(value)

    def test_drawn_values(self):
        source, forms = random.Random(47), {}
        for _ in range(3000):
            value = drawn_value(source)
            self.check_both_ways(value)
            # no two values have one form
            self.assertEqual(forms.setdefault(write(value), value), value)
        self.assertGreater(len(forms), 1000)

    def test_integers_of_many_digits(self):
        for value in (10 ** 39, 10 ** 40 - 1):
            self.check_both_ways(value)
            self.check_both_ways(-value)
        for value in (10 ** 40, 10 ** 41, 10 ** 800):
            for signed in (value, -value):
                self.assertEqual(write(signed), repr(signed))
                self.refuses(write(signed))
                self.refuses(write((1, signed)))
        for digits in ("9" * 9000, "-" + "9" * 9000, "1" + "0" * 9000):
            self.refuses(digits)
            self.refuses("(" + digits + ")")
        self.refuses("9" * 41)

    def digits_one_by_one(self, number):
        """A second telling of the digits of an integer."""
        found, sign = [], "-" if number < 0 else ""
        number = abs(number)
        while number:
            number, digit = divmod(number, 10)
            found.append("0123456789"[digit])
        return sign + "".join(reversed(found)) if found else "0"

    def test_integers_of_more_digits_than_are_turned_at_once(self):
        for size in (1, 2, 63, 64, 65, 127, 128, 129, 255, 256, 257, 640, 641, 4299, 4300, 4301, 8191, 8192, 9000):
            for value, digits in ((10 ** size, "1" + "0" * size), (10 ** size - 1, "9" * size),
                                  (10 ** size + 1, "1" + "0" * (size - 1) + "1")):
                self.assertEqual(write(value), digits)
                self.assertEqual(write(-value), "-" + digits)
                self.assertEqual(write((value, ("a", -value))), f"({digits},(1:a,-{digits}))")

    def test_drawn_integers_of_many_digits(self):
        source = random.Random(4300)
        for _ in range(60):
            size = source.choice([1, 10, 10 ** 64, 10 ** 65, 10 ** 130, 10 ** 1000, 10 ** 4302, 10 ** 5000])
            value = source.choice([1, -1]) * source.randrange(size)
            # zeros that stand where an integer is cut must not be lost
            value = value * source.choice([1, 10 ** 64, 10 ** 70]) + source.choice([0, 0, 1])
            self.assertEqual(write(value), self.digits_one_by_one(value))

    def test_deep_tuples(self):
        for depth in range(1, 11):
            self.check_both_ways(nested(depth))
            if depth > 1:
                self.check_both_ways((1, nested(depth - 1), "a", nested(depth - 1)))
        self.check_both_ways(nested(10, (1, "a")))
        for depth in (11, 12, 3000):
            self.assertEqual(write(nested(depth)), "(" * depth + ")" * depth)
            self.refuses(write(nested(depth)))
        self.refuses(write(nested(10, (1, ()))))
        self.refuses("(" * 5000)

    def test_long_texts(self):
        for many in (9, 10, 99, 100, 12345):
            self.check_both_ways("a" * many)
            self.check_both_ways(("(", "1" * many, 2))


class RefuseTest(NotationCase):

    def test_by_hand(self):
        for text in ("", " ", "-", "--1", "-0", "00", "01", "-01", "+1", "1 ", " 1", "1,2", "1.0", "1e3", "0x1", "1_0",
                     ":", ":a", "1:", "1:ab", "2:a", "01:a", "00:", "-1:a", "1:a1:a", "a", "abc", "None", "True",
                     "(", ")", "(()", "())", "(,)", "(1,)", "(,1)", "(1,,2)", "(1 ,2)", "(1, 2)", "(1;2)", "[1]",
                     "(1)(2)", "()()", "(-)", "(-0)", "(1", "(1,", "(3:ab)", "(1:)", "(1:a,", "((1)", "(1))", "(a)",
                     "(1:ab)"):
            self.refuses(text)

    def test_lengths(self):
        self.refuses("0000000001:a")
        self.refuses("1000000000:a")
        self.refuses("0000000000:")
        self.refuses("999999999:a")
        self.refuses("2000000000:" + "a" * 20)
        self.refuses("(999999999:a)")
        self.refuses("9" * 40 + ":a")

    def test_characters_that_no_text_has(self):
        for text in ("1:" + chr(37), "1:\n", "1:\t", "1:" + chr(127), "1:" + chr(233), chr(0x661), "1:" + chr(0x661),
                     "(1\n)", "1\n"):
            self.refuses(text)

    def changed(self, source, text):
        """The text with one character changed, removed, doubled or exchanged, cut off, or with something behind it."""
        at, sign = source.randrange(len(text)), source.choice(SIGNS)
        other = source.randrange(len(text))
        swapped = list(text)
        swapped[at], swapped[other] = text[other], text[at]
        before, behind = text[:at], text[at + 1:]
        return source.choice([before + sign + behind, before + behind, before + text[at] * 2 + behind, "".join(swapped),
                              before, text + sign, before + sign + text[at:]])

    def test_changed_forms(self):
        """A text that is read is the written form of what was read, so every other text is refused."""
        source, counts = random.Random(48), {True: 0, False: 0}
        for _ in range(20000):
            text = self.changed(source, write(drawn_value(source, source.choice([1, 2, 3, 10]))))
            try:
                value = read(text)
            except BadNotation:
                counts[False] += 1
                continue
            counts[True] += 1
            self.assertEqual(told_form(value), text)
            self.assertTrue(within(value))
        self.assertGreater(min(counts.values()), 2000)

    def test_each_short_text(self):
        """Of all short texts exactly the written forms are read."""
        signs = "01:,()-a"
        values = {told_form(value) for value in self.short_values(5)}
        texts = [""]
        for _ in range(5):
            texts = [text + sign for text in texts for sign in signs]
            for text in texts:
                if text in values:
                    self.assertEqual(told_form(read(text)), text)
                else:
                    self.refuses(text)

    def short_values(self, room):
        """All values with a written form of at most so many of the signs."""
        signs = "01:,()-a"
        found = [number for size in range(room) for number in (*range(10 ** size, 2 * 10 ** size), 0)
                 if not set(str(number)) - set("01")]
        found += [-number for number in found if number and len(str(number)) < room]
        texts = [""]
        for _ in range(room - 1):
            found += [text for text in texts if len(told_form(text)) <= room]
            texts = [text + sign for text in texts for sign in signs]
        if room >= 2:
            found.append(())
            parts = self.short_values(room - 2) if room > 2 else []
            for part in parts:
                found += [(part,)] + [(part, other) for other in parts if len(told_form((part, other))) <= room]
        return [value for value in found if len(told_form(value)) <= room]


class LetterTest(NotationCase):

    def test_letters(self):
        for letter in LETTERS:
            self.assertTrue(is_letter(letter))
            self.assertEqual(read_letter(write(letter)), letter)
            self.assertTrue(same_kinds(read_letter(write(letter)), letter))

    def test_values_that_are_no_letters(self):
        kind, side, number, transfer = LETTERS[0]
        for value in (0, 5, "", "deliver", (), (kind,), LETTERS[0][:3], LETTERS[0] + (1,),
                      (kind, "both", number, transfer), (kind, side, -1, transfer), (kind, side, "0", transfer),
                      (kind, side, number, ()),
                      ("send", side, number, transfer), (kind, side, number, transfer[:5]), (7, side, number, transfer),
                      (kind, side, number, ("gold", 1, 2, "ann", "ben", 50)), ((kind,), side, number, transfer),
                      (kind, (side,), number, transfer), (kind, side, (number,), transfer), (kind, side, number, 7),
                      ("bundle", side, number, ()), ("bundle", side, number, (transfer,) * 9),
                      ("rotate", "both", 0, (("g1", 1),)), ("rotate", "both", 1, ()),
                      ("rotate", "west", 1, (("g1", 1),)), ("stop", side, number, (0,)), ("stop", "both", number, ()),
                      ("stop", side, number, 0)):
            self.assertFalse(is_letter(value))
            self.assertEqual(read(write(value)), value)
            self.refuses(write(value), read_letter)

    def test_texts_that_tell_nothing(self):
        for letter in LETTERS:
            text = write(letter)
            for wrong in (text + ")", text[:-1], "(" + text + ")", text.replace("(", "((", 1), " " + text, ""):
                self.refuses(wrong, read_letter)
        self.refuses(write(("deliver", "west", 10 ** 40, TRANSFER)), read_letter)

    def test_changed_letters(self):
        source = random.Random(49)
        read_again = 0
        for _ in range(6000):
            text = write(source.choice(LETTERS))
            at = source.randrange(len(text))
            text = text[:at] + source.choice(SIGNS) + text[at + 1:]
            try:
                letter = read_letter(text)
            except BadNotation:
                continue
            read_again += 1
            self.assertTrue(is_letter(letter))
            self.assertEqual(told_form(letter), text)
        self.assertGreater(read_again, 500)


if __name__ == "__main__":
    unittest.main()
