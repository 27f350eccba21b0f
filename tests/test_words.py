"""Points 73 and 77: lines, words and nested lists."""

import random
import unittest

from everyfuture.words import read_list, write_list
from tests.brute import BIG, HUGE, told

GOOD = {
    "( )": [], "( 0 )": [0], "( -1 10 -20 )": [-1, 10, -20], "( - )": [None], "( ( ) )": [[]],
    "( 3 - ( 0 -1 ) ( ) )": [3, None, [0, -1], []], "( ( ( - ) 5 ) ( ( ) ( ) ) - )": [[[None], 5], [[], []], None],
}
# No integer words, and no other words either.
BAD_WORDS = ("", "00", "01", "-0", "-01", "+1", "--1", "-", "+", "1-", "1.0", "1_0", "1e3", "0x1", "a", "1a", "()",
             "(1",
             "1)", "(", ")", ".", "..", "None", "\t", "'1'")


def random_list(dice, depth):
    return [random_list(dice, depth - 1) if depth and dice.random() < 0.4 else
            dice.choice((None, 0, -1, 7, dice.randint(-HUGE, HUGE))) for _ in range(dice.randint(0, 4))]


def tuples_of(value):
    return tuple(tuples_of(part) for part in value) if isinstance(value, list) else value


class Lists(unittest.TestCase):
    def test_plain_texts(self):
        for text, values in GOOD.items():
            self.assertEqual((write_list(values), read_list(text)), (text, values))
            self.assertEqual(write_list(tuples_of(values)), text)

    def test_there_and_back(self):
        dice = random.Random(270)
        for _ in range(300):
            values = random_list(dice, 4)
            text = write_list(values)
            self.assertEqual(text.split(" "), text.split())
            self.assertEqual(repr(read_list(text)), repr(values))
            self.assertEqual(write_list(read_list(text)), text)

    def test_great_numbers_and_depths(self):
        for number in (10 ** 59, 10 ** 60 - 1, -(10 ** 59), -(10 ** 60 - 1), BIG, -BIG, 10 ** 120):
            self.assertEqual(read_list(write_list([number])), [number])
            self.assertEqual(write_list([number, [number]]), f"( {number} ( {number} ) )")
        for depth in (12, 40, 200):
            text = " ".join(["("] * depth + ["-5"] + [")"] * depth)
            values = read_list(text)
            self.assertEqual(write_list(values), text)
            for _ in range(depth):
                self.assertEqual(len(values), 1)
                values = values[0]
            self.assertEqual(values, -5)

    def test_wrong_words(self):
        for word in BAD_WORDS:
            if word not in ("-", "(", ")"):
                for text in (f"( {word} )", f"( 1 {word} 2 )", f"( ( {word} ) )", f"( 1 ) {word}", f"{word} ( 1 )"):
                    self.assertEqual(told(read_list, text), ("InvalidText", 1), text)

    def test_brackets_that_do_not_fit(self):
        for text in ("(", ")", "( (", "( ( )", "( ) )", "( ) ( )", ") (", "( 1 ) 2", "1", "-", "1 2", "( ( ) ) )",
                     "( ) -",
                     "-5 ( )", "( ( 1 ) ( 2 )"):
            self.assertEqual(told(read_list, text), ("InvalidText", 1), text)

    def test_spaces_and_lines(self):
        for text in ("", " ", " ( )", "( ) ", "(  )", "( 1  2 )", "()", "(1)", "( 1\t2 )", "( 1, 2 )", "\n", "\n( )",
                     " \n( )", "(\n)", "( 1\n2 )", "()\n( )\n( )"):
            self.assertEqual(told(read_list, text), ("InvalidText", 1), text)
        for text in ("( )\n", "( )\n( )", "( 1 )\n\n", "( - )\n-", "( )\nx\ny"):
            self.assertEqual(told(read_list, text), ("InvalidText", 2), text)

    def test_nothing_is_tied(self):
        values = [1, [2]]
        text = write_list(values)
        self.assertEqual(values, [1, [2]])
        read_list(text)[1].append(3)
        self.assertEqual(read_list(text), [1, [2]])


if __name__ == "__main__":
    unittest.main()
