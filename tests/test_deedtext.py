"""Points 73 and 78: the texts of papers and commands."""

import random
import unittest

from everyfuture.deedtext import read_commands, read_paper, write_commands, write_paper
from everyfuture.desk import Desk
from everyfuture.losses import loss
from everyfuture.papers import make_paper, paper_bound
from tests.brute import BIG, HUGE, told
from tests.houses import kind_of, open_house, random_decision
from tests.test_words import BAD_WORDS, random_list, tuples_of

ROW = "future a=1 b=-2\nrest ( 1 ( ) )\ncertificate ( - ( 0 -3 ) )"
ROWS = [({"a": 1, "b": -2}, [1, []], [None, [0, -3]])]
COMMANDS = [("decide", [0, None, [1, []]]), ("learn", "a", 3, None), ("learn", "all", None, HUGE), ("undo",), ("redo",),
            ("learn", "z9", None, None), ("learn", "b", -4, -BIG), ("decide", [])]
TEXT = f"""decide ( 0 - ( 1 ( ) ) )
learn a 3 -
learn all - {HUGE}
undo
redo
learn z9 - -
learn b -4 -{BIG}
decide ( )"""


class Papers(unittest.TestCase):
    def test_plain_texts(self):
        self.assertEqual((write_paper(ROWS), read_paper(ROW)), (ROW, ROWS))
        self.assertEqual((write_paper(ROWS * 3), read_paper("\n".join([ROW] * 3))), ("\n".join([ROW] * 3), ROWS * 3))
        self.assertEqual((write_paper([]), read_paper("")), ("", []))
        self.assertEqual(write_paper(()), "")
        self.assertEqual(read_paper("future\nrest ( )\ncertificate ( )"), [({}, [], [])])
        self.assertEqual(write_paper((({"b": 2, "a": 1}, (1, ()), ((), None)),)),
                         "future a=1 b=2\nrest ( 1 ( ) )\ncertificate ( ( ) - )")
        self.assertEqual([type(row) for row in read_paper(ROW)], [tuple])

    def test_there_and_back(self):
        dice = random.Random(290)
        for _ in range(60):
            rows = [({gauge: dice.randint(-HUGE, HUGE) for gauge in dice.sample("abcdef", dice.randint(0, 4))},
                     random_list(dice, 3), random_list(dice, 3)) for _ in range(dice.randint(0, 5))]
            self.assertEqual(read_paper(write_paper(rows)), rows)
            self.assertEqual(write_paper(tuples_of([list(row) for row in rows])), write_paper(rows))

    def test_papers_of_the_program(self):
        dice = random.Random(291)
        for _ in range(25):
            house = open_house(dice)
            kind = kind_of(dice, house)
            decision = random_decision(dice, house)
            rows = make_paper(house, decision, kind)
            again = read_paper(write_paper(rows))
            self.assertEqual(again, rows)
            self.assertEqual([list(row[0]) for row in again], [list(row[0]) for row in rows])
            self.assertEqual(paper_bound(house, decision, kind, again), loss(house, decision, kind)[0])

    def test_wrong_lines(self):
        lines = "\n".join([ROW] * 2).split("\n")
        for at in range(6):
            word = lines[at].split(" ")[0]
            for bad in ("", " ", word + "s", word.upper(), " " + lines[at], lines[at] + " ", lines[at].replace(" ",
                        "  ", 1),
                        word + " x", word + " (", word + " 5", lines[(at + 1) % 3], lines[(at + 2) % 3], "undo",
                        lines[at] + " )", lines[at] + " 3", word + " a=1 a=1", word + " ( -0 )", word + " ( 1 ) ( )"):
                text = "\n".join(lines[:at] + [bad] + lines[at + 1:])
                self.assertEqual(told(read_paper, text), ("InvalidText", at + 1), text)
        for word in ("rest", "certificate"):
            at = ("rest", "certificate").index(word) + 1
            self.assertEqual(told(read_paper, "\n".join(lines[:at] + [word] + lines[at + 1:])), ("InvalidText", at + 1))

    def test_lines_missing_and_lines_too_many(self):
        lines = "\n".join([ROW] * 2).split("\n")
        for many in (1, 2, 4, 5):
            self.assertEqual(told(read_paper, "\n".join(lines[:many])), ("InvalidText", many + 1))
        for more in ("", "x", "rest ( )", "\n"):
            self.assertEqual(told(read_paper, ROW + "\n" + more), ("InvalidText", 4))
        self.assertEqual(told(read_paper, "\n"), ("InvalidText", 1))
        self.assertEqual(told(read_paper, "future"), ("InvalidText", 2))


class Commands(unittest.TestCase):
    def test_plain_texts(self):
        self.assertEqual(write_commands(COMMANDS), TEXT)
        self.assertEqual(read_commands(TEXT), COMMANDS)
        self.assertEqual((write_commands([]), read_commands(""), write_commands(())), ("", [], ""))
        self.assertEqual(write_commands((("decide", (1, (None,))), ("undo",))), "decide ( 1 ( - ) )\nundo")
        self.assertEqual({type(command) for command in read_commands(TEXT)}, {tuple})
        for command in COMMANDS:
            self.assertEqual(read_commands(write_commands([command])), [command])

    def test_there_and_back(self):
        dice = random.Random(292)
        for _ in range(100):
            commands = []
            for _ in range(dice.randint(0, 8)):
                low, high = [dice.choice((None, 0, dice.randint(-HUGE, HUGE))) for _ in range(2)]
                commands.append(dice.choice([("undo",), ("redo",), ("decide", random_list(dice, 3)),
                                             ("learn", dice.choice(("a", "undo", "learn", "x1")), low, high)]))
            self.assertEqual(read_commands(write_commands(commands)), commands)

    def test_the_deeds_of_a_desk(self):
        dice = random.Random(293)
        for _ in range(25):
            house = open_house(dice)
            kind = kind_of(dice, house)
            desk = Desk(house, kind)
            desk.decide(random_decision(dice, house))
            desk.learn(kind.gauges[0], low=kind.span(kind.gauges[0])[1])
            if not desk.house.is_finished():
                desk.decide(random_decision(dice, desk.house))
            text = write_commands(list(desk))
            again = Desk(house, kind)
            again.run(read_commands(text))
            self.assertEqual((list(again), again.told, again.kind), (list(desk), desk.told, desk.kind))

    def test_wrong_lines(self):
        bad = ["", " ", "x", "Undo", "undo ", " undo", "undo undo", "undo 1", "redo ( )", "decide", "decide 5",
               "decide -",
               "decide a", "decide ( ) ( )", "decide ( ) 5", "decide ( 1 2", "decide  ( )", "decide ( a )",
               "decide ( 01 )",
               "learn", "learn a", "learn a 1", "learn a 1 2 3", "learn a  1 2", "learn A 1 2", "learn 5 1 2",
               "learn - 1 2", "learn abcdefghi 1 2", "learn a b 2", "learn a 1 b", "learn a 01 2", "learn a 1 -0",
               "learn a ( )", "learn a None 2", "decides ( )", "run ( )", "future a=1"]
        for word in BAD_WORDS:
            if word != "-":
                bad += [f"learn a {word} 2", f"learn a 2 {word}"]
            if word not in ("a", ""):
                bad.append(f"learn {word} 1 2")
            if word not in ("-", "( )"):
                bad.append(f"decide ( {word} )")
        for line in bad:
            for at in (0, 2, 5):
                lines = ["undo"] * at + [line] + ["undo", "x"]
                self.assertEqual(told(read_commands, "\n".join(lines)), ("InvalidText", at + 1), line)
        self.assertEqual(told(read_commands, "undo\n"), ("InvalidText", 2))
        self.assertEqual(told(read_commands, "\n"), ("InvalidText", 1))
        self.assertEqual(told(read_commands, TEXT + "\n"), ("InvalidText", 9))

    def test_nothing_is_tied(self):
        commands = [("decide", [1, [2]])]
        text = write_commands(commands)
        found = read_commands(text)
        found[0][1][1].append(7)
        found.append(("undo",))
        self.assertEqual((read_commands(text), commands), (commands, [("decide", [1, [2]])]))


if __name__ == "__main__":
    unittest.main()
