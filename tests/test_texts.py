"""The text of a rule: [13], and [2] and [3] for it."""

import re
import unittest

from rodturns.errors import RuleError, TextError
from rodturns.rules import Aimed, Bound, Held, Rule, flipped
from rodturns.texts import read, written
from tests.values import NO_INTEGERS, NO_TEXTS, all_choices

LENGTH = "(?:[1-9]|[1-3][0-9]|40)"
BEGINNING = re.compile(f"(?:{LENGTH}[<>]?[-=~]){{0,11}}(?:{LENGTH}[<>]?)?")
WHOLE = re.compile(f"{LENGTH}[<>]?(?:[-=~]{LENGTH}[<>]?){{0,11}}")
PLAIN_BEGINNING = re.compile(f"(?:{LENGTH}-){{0,11}}(?:{LENGTH})?")
PLAIN_WHOLE = re.compile(f"{LENGTH}(?:-{LENGTH}){{0,11}}")

LONGEST = "40>=" * 11 + "40<"
TEXTS = [
    "4>=3~5<-2", "4-41", "4-", "3-1-3", "1", "9>", "10<", "40", "40>~1", "1-2-3-4-5-6-7-8-9-10-11-12", LONGEST,
    "1-" * 11 + "1", "39=40-41",
]
CHARACTERS = "0123459-=~<>+_ .LRa"


def changed(text):
    """A text cut after each character, and with a character added, changed or left out."""
    found = [text]
    for at in range(len(text) + 1):
        found.append(text[:at])
        found.append(text[:at] + text[at + 1:])
        for letter in CHARACTERS:
            found.append(text[:at] + letter + text[at:])
            found.append(text[:at] + letter + text[at + 1:])
    return found


def place_in(text, beginning):
    """The length of the longest part at the front of a text that begins the text of a rule."""
    return max(size for size in range(len(text) + 1) if beginning.fullmatch(text[:size]))


class TextCase(unittest.TestCase):

    def assert_place(self, place, reader, text):
        with self.subTest(text=text):
            with self.assertRaises(TextError) as caught:
                reader(text)
            self.assertEqual(caught.exception.place, place)
            self.assertIs(type(caught.exception.place), int)


class WrittenTest(unittest.TestCase):

    def test_example(self):
        self.assertEqual(written(Bound(4, 3, 5, 2, straight=(1,), folded=(2,), right=(1,), left=(3,))), "4>=3~5<-2")

    def test_each_class(self):
        self.assertEqual(written(Rule(1, 9, 10, 40)), "1-9-10-40")
        self.assertEqual(written(Held(1, 9, 10, 40, straight=(3, 1), folded=(2,))), "1=9~10=40")
        self.assertEqual(written(Aimed(1, 9, 10, 40, right=(4, 1), left=(2,))), "1>-9<-10-40>")
        self.assertEqual(written(Bound(1, 9, 10, 40)), "1-9-10-40")

    def test_one_and_twelve_rods(self):
        self.assertEqual(written(Rule(7)), "7")
        self.assertEqual(written(Aimed(10, left=(1,))), "10<")
        self.assertEqual(written(Rule(*range(1, 13))), "1-2-3-4-5-6-7-8-9-10-11-12")
        longest = Bound(*(40,) * 12, straight=tuple(range(1, 12)), right=tuple(range(1, 12)), left=(12,))
        self.assertEqual(written(longest), LONGEST)

    def test_flipped(self):
        self.assertEqual(written(flipped(read("4>=3~5<-2"))), "2-5>~3=4<")

    def test_class_below(self):
        class Own(Aimed):
            pass

        self.assertEqual(written(Own(5, 6, right=(2,))), "5-6>")

    def test_no_rule(self):
        for thing in NO_INTEGERS + NO_TEXTS + [Rule, [Rule(1)], (Rule(1),), (3, 1, 3), "3-1-3"]:
            with self.subTest(thing=thing), self.assertRaises(RuleError):
                written(thing)


class ReadTest(TextCase):

    def test_example(self):
        bound = read("4>=3~5<-2")
        self.assertIs(type(bound), Bound)
        self.assertEqual(bound.rods, [4, 3, 5, 2])
        self.assertEqual(bound.options(), {"straight": (1,), "folded": (2,), "right": (1,), "left": (3,)})

    def test_plain_text_gives_a_bound(self):
        bound = read("3-1-3")
        self.assertIs(type(bound), Bound)
        self.assertEqual(bound.options(), {"straight": (), "folded": (), "right": (), "left": ()})

    def test_all_lengths(self):
        for length in range(1, 41):
            self.assertEqual(read(str(length)).rods, [length])
            self.assertEqual(read(f"{length}>-{length}").rods, [length, length])

    def test_read_what_is_written(self):
        for straight, folded in all_choices(2):
            for right, left in all_choices(3):
                given = {"straight": straight, "folded": folded, "right": right, "left": left}
                again = read(written(Bound(10, 1, 40, **given)))
                self.assertEqual(again.rods, [10, 1, 40])
                self.assertEqual(again.options(), given)

    def test_example_places(self):
        self.assert_place(3, read, "4-41")
        self.assert_place(2, read, "4-")
        self.assert_place(0, read, "")

    def test_places(self):
        eleven = "1-" * 11
        for place, text in [
            (0, "0"), (0, "-"), (0, "<"), (0, " 4"), (0, "x"), (1, "41"), (1, "50"), (1, "4 "), (1, "4,3"),
            (2, "401"), (2, "400"), (2, "4-03"), (2, "4--3"), (2, "4>>"), (2, "4><"), (2, "4>3"), (3, "4>="),
            (3, "4>=0"), (2, "4-" + "x" * 298), (22, eleven), (23, eleven + "1-"), (23, eleven + "1-1"),
            (24, eleven + "1<=1"), (47, LONGEST + "-1"), (47, LONGEST + "-"), (47, LONGEST + "0"),
        ]:
            self.assert_place(place, read, text)

    def test_changed_texts(self):
        for text in TEXTS:
            for other in changed(text):
                if WHOLE.fullmatch(other):
                    self.assertEqual(written(read(other)), other)
                else:
                    self.assert_place(place_in(other, BEGINNING), read, other)

    def test_no_text(self):
        for thing in NO_TEXTS:
            self.assert_place(0, read, thing)

    def test_same_call_same_answer(self):
        one = read("4>=3~5<-2")
        other = read("4>=3~5<-2")
        self.assertEqual((one.rods, one.options()), (other.rods, other.options()))
        one.rods.append(1)
        one.options()["straight"] = ()
        self.assertEqual(written(one), "4>=3~5<-2")


class PlainTest(TextCase):

    def test_ordinary(self):
        rule = Rule.plain("3-1-3")
        self.assertIs(type(rule), Rule)
        self.assertEqual(rule.rods, [3, 1, 3])
        self.assertEqual(rule.options(), {})
        self.assertEqual(Rule.plain("1-9-10-40").rods, [1, 9, 10, 40])
        self.assertEqual(Rule.plain("40").rods, [40])
        self.assertEqual(Rule.plain("1-2-3-4-5-6-7-8-9-10-11-12").rods, list(range(1, 13)))

    def test_places(self):
        for place, text in [
            (0, ""), (2, "4-"), (3, "4-41"), (1, "4>"), (1, "4<-3"), (1, "4=3"), (3, "4-3~5"), (2, "10>-3"),
            (3, "4-3="), (0, "0-1"), (23, "1-" * 11 + "1-"), (23, "1-" * 11 + "1>"), (1, "4>=3~5<-2"),
        ]:
            self.assert_place(place, Rule.plain, text)

    def test_changed_texts(self):
        for text in TEXTS:
            for other in changed(text):
                if PLAIN_WHOLE.fullmatch(other):
                    self.assertEqual(written(Rule.plain(other)), other)
                else:
                    self.assert_place(place_in(other, PLAIN_BEGINNING), Rule.plain, other)

    def test_no_text(self):
        for thing in NO_TEXTS:
            self.assert_place(0, Rule.plain, thing)


if __name__ == "__main__":
    unittest.main()
