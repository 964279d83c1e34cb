import inspect
import itertools
import unittest

from roadsizes import texts
from roadsizes.errors import BadText, RoadError
from roadsizes.nets import Net
from roadsizes.texts import read_way, way_text
from roadsizes.ways import Way
from tests.helpers import Dice, Raising, cutting, mixed_ways, not_integers, run_examples, some_ways

EXAMPLES = """
    >>> from roadsizes.texts import read_way, way_text
    >>> from roadsizes.ways import Way
    >>> outer = Way(10, [("tunnel", Way(5, [("road", 20, "tell", "cut")]), 2, "turn"), ("join", 9)])
    >>> way_text(outer)
    'head 10\\ntunnel 2 turn\\n  head 5\\n  road 20 tell cut\\njoin 9'
    >>> read_way(way_text(outer)) == outer
    True
    >>> read_way("head 10\\ntunnel 2 turn\\njoin 9")
    raises BadText(3)
"""

DEEP = """head 10
tunnel 2 turn
  head 5
  tunnel 3 keep
    head 7
    road 20 tell cut
    join 4
  road 20 drop drop
join 9
tunnel 1 lose
  head 1
  join 1
road 30 tell tell"""


def plain_read(text):
    """The way with a text, read without a look at the errors; None if there is none."""
    try:
        way, rest = plain_ways(text.split("\n"), 0)
    except (RoadError, ValueError, IndexError, KeyError):
        return None
    return way if not rest and way_text(way) == text else None


def plain_ways(lines, level):
    spaces = "  " * level
    first, *rest = lines
    if not first.startswith(spaces + "head ") or len(first) > 100:
        raise ValueError
    head, steps = int(first[len(spaces) + 5:]), []
    while rest and rest[0].startswith(spaces) and rest[0][len(spaces):][:1] in ("r", "j", "t"):
        words = rest.pop(0)[len(spaces):].split(" ")
        if words[0] == "road":
            steps.append(("road", int(words[1]), *words[2:]))
        elif words[0] == "join":
            steps.append(("join", int(words[1]), *words[2:]))
        else:
            inner, rest = plain_ways(rest, level + 1)
            steps.append(("tunnel", inner, int(words[1]), *words[2:]))
    return Way(head, steps), rest


def goes_on(lines):
    """Whether the text of any way begins with these lines: the shortest ways to end one are tried."""
    ends = [[]]
    for level in range(4):
        spaces = "  " * level
        ends += [[spaces + "join 1"], [spaces + "head 1", spaces + "join 1"]]
    return any(plain_read("\n".join(lines + end)) is not None for end in ends)


def plain_line(text):
    """The line that BadText tells, or None for the text of a way."""
    if plain_read(text) is not None:
        return None
    lines = text.split("\n")
    for many in range(1, len(lines) + 1):
        if not goes_on(lines[:many]):
            return many
    return len(lines) + 1


class TextTest(Raising):

    def check_bad(self, text, line):
        self.assert_raises(BadText, line, read_way, text)


class ExamplesTest(unittest.TestCase):

    def test_examples(self):
        run_examples(self, EXAMPLES)


class InterfaceTest(unittest.TestCase):

    def test_arguments(self):
        for call, signature in ((way_text, "(way)"), (read_way, "(text)")):
            self.assertEqual(call.__module__, texts.__name__)
            self.assertEqual(str(inspect.signature(call)), signature)

    def test_arguments_by_name(self):
        way = Way(10, [("join", 3)])
        self.assertEqual(way_text(way=way), "head 10\njoin 3")
        self.assertEqual(read_way(text="head 10\njoin 3"), way)

    def test_the_kinds_of_values(self):
        self.assertIs(type(way_text(Way(10, [("join", 3)]))), str)
        self.assertIs(type(read_way("head 10\njoin 3")), Way)


class WayTextTest(TextTest):

    def test_each_kind_of_step(self):
        steps = {("road", 20, "tell", "cut"): "road 20 tell cut", ("road", 11, "drop", "tell"): "road 11 drop tell",
                 ("road", 1000, "tell", "drop"): "road 1000 tell drop", ("join", 1): "join 1",
                 ("join", 10 ** 12): "join 1000000000000"}
        for step, line in steps.items():
            self.assertEqual(way_text(Way(10, [step])), "head 10\n" + line)
        self.assertEqual(way_text(Way(10, list(steps))), "\n".join(["head 10", *steps.values()]))
        for tells in ("turn", "keep", "lose"):
            for most in (1, 10 ** 12):
                way = Way(10, [("tunnel", Way(40, [("join", 1)]), most, tells)])
                self.assertEqual(way_text(way), f"head 10\ntunnel {most} {tells}\n  head 40\n  join 1")

    def test_tunnels_in_tunnels(self):
        low = Way(7, [("road", 20, "tell", "cut"), ("join", 4)])
        mid = Way(5, [("tunnel", low, 3, "keep"), ("road", 20, "drop", "drop")])
        way = Way(10, [("tunnel", mid, 2, "turn"), ("join", 9), ("tunnel", Way(1, [("join", 1)]), 1, "lose"),
                       ("road", 30, "tell", "tell")])
        self.assertEqual(way_text(way), DEEP)
        self.assertEqual(read_way(DEEP), way)

    def test_read_way_of_way_text(self):
        for way in itertools.chain(some_ways(), mixed_ways(500, seed=12)):
            text = way_text(way)
            made = read_way(text)
            self.assertEqual(made, way)
            self.assertEqual((made.depth, made.size, way_text(made)), (way.depth, way.size, text))

    def test_great_ways(self):
        ten = Way(1, [("join", 1)] * 10)
        for way in (Way(1, [("join", 1)] * 12), Way(1, [("tunnel", ten, 1, "turn")] * 3 + [("join", 1)] * 7),
                    Way(1, [("tunnel", Way(1, [("tunnel", ten, 1, "turn")] * 3), 1, "turn")] + [("join", 1)] * 6)):
            self.assertEqual(read_way(way_text(way)), way)
            self.check_bad(way_text(way) + "\n", way_text(way).count("\n") + 2)


class BadTextTest(TextTest):

    def test_values_that_are_no_string(self):
        for value in not_integers() + [0, 3, Net(), ["head 10", "join 3"], ("head 10\njoin 3",)]:
            if not isinstance(value, str):
                self.check_bad(value, 1)

    def test_texts_that_end_too_early(self):
        self.check_bad("head 10", 2)
        self.check_bad("head 10\ntunnel 2 turn", 3)
        self.check_bad("head 10\ntunnel 2 turn\n  head 5", 4)
        self.check_bad("head 10\njoin 1\ntunnel 2 turn\n  head 5\n  tunnel 2 turn\n    head 3", 7)

    def test_empty_texts_and_lines(self):
        for text in ("", "\n", " ", "\nhead 10\njoin 3", "\n\n\n"):
            self.check_bad(text, 1)
        self.check_bad("head 10\n", 2)
        self.check_bad("head 10\n\njoin 3", 2)
        self.check_bad("head 10\njoin 3\n", 3)
        self.check_bad("head 10\njoin 3\n\n", 3)
        self.check_bad("head 10\njoin 3\n\njoin 3", 3)
        self.check_bad("head 10\njoin 3\n ", 3)

    def test_heads(self):
        for head in ("1", "40"):
            self.assertEqual(read_way(f"head {head}\njoin 3").head, int(head))
        for head in ("0", "41", "-1", "+1", "01", "1.0", "1e1", "x", "", "10 ", " 10", "1 0", "1_0", "0x1", "9" * 60,
                     "9" * 61, "9" * 5000, "1" + "0" * 60, "\u0661", "\u00b2", "1\t"):
            self.check_bad(f"head {head}\njoin 3", 1)
        for line in ("Head 10", "head", "head10", "head  10", "head 10 10", "headers 10", "join 3", "road 20 tell cut"):
            self.check_bad(f"{line}\njoin 3", 1)

    def test_roads(self):
        for size, is_one in ((10, False), (11, True), (1000, True), (1001, False), (0, False), (9, False)):
            if is_one:
                self.assertEqual(read_way(f"head 10\nroad {size} tell cut")[0][1], size)
            else:
                self.check_bad(f"head 10\nroad {size} tell cut", 2)
        self.assertEqual(read_way("head 40\nroad 41 tell cut")[0][1], 41)
        self.check_bad("head 40\nroad 40 tell cut", 2)
        for words in ("", "20", "20 tell", "20 tell cut cut", "tell cut", "tell cut 20", "20 cut cut", "20 tell keep",
                      "20 Tell cut", "20 tell  cut", "20  tell cut", " 20 tell cut", "20 tell cut ", "+20 tell cut",
                      "020 tell cut", "-20 tell cut", "a tell cut", "2\u0660 tell cut", "20 drop turn", "20 cut tell"):
            self.check_bad(f"head 10\njoin 1\nroad {words}", 3)

    def test_joins_and_tunnels(self):
        for kind, words, rest in (("join", "", ""), ("tunnel", " turn", "\n  head 1\n  join 1")):
            for most in ("1", "1000000000000"):
                self.assertEqual(len(read_way(f"head 10\n{kind} {most}{words}{rest}")), 1)
            for most in ("0", "1000000000001", "-1", "+1", "01", "", "x", "9" * 60, "9" * 5000, "1,000", "\u0661",
                         "1 1"):
                self.check_bad(f"head 10\n{kind} {most}{words}{rest}", 2)
        for line in ("join", "join 1 1", "join  1", "join 1 ", "Join 1", "joint 1", "tunnel 1", "tunnel 1 Turn",
                     "tunnel 1 turn turn", "tunnel turn 1", "tunnel 1 tell", "tunnel 1  turn", "tunnel 1 turn ",
                     "tunnel",
                     "step join 1", "head 10", ""):
            self.check_bad(f"head 10\n{line}\n  head 1\n  join 1", 2)

    def test_indentations(self):
        for spaces in (" ", "   ", "    ", "\t", "      "):
            self.check_bad(f"{spaces}head 10\njoin 3", 1)
            self.check_bad(f"head 10\n{spaces}join 3", 2)
            self.check_bad(f"head 10\njoin 3\n{spaces}join 3", 3)
            self.check_bad(f"head 10\ntunnel 2 turn\n{spaces}head 5\n  join 3", 3)
            self.check_bad(f"head 10\ntunnel 2 turn\n  head 5\n{spaces}join 3", 4)
            self.check_bad(f"head 10\ntunnel 2 turn\n  head 5\n  join 3\n{spaces}join 3", 5)
        self.check_bad("  head 10\n  join 3", 1)
        self.check_bad("head 10\n  join 3", 2)
        self.check_bad("head 10\njoin 3\n  join 3", 3)
        self.check_bad("head 10\ntunnel 2 turn\nhead 5\njoin 3", 3)
        self.check_bad("head 10\ntunnel 2 turn\n  head 5\njoin 3", 4)
        self.check_bad("head 10\ntunnel 2 turn\n  head 5\n  join 3\njoin 3\n  join 3", 6)
        self.check_bad("head 10\ntunnel 2 turn\n  join 3", 3)

    def test_too_many_steps(self):
        twelve = "\n".join(["head 10"] + ["join 1"] * 12)
        self.assertEqual(len(read_way(twelve)), 12)
        for line in ("join 1", "road 20 tell cut", "tunnel 2 turn", "x"):
            self.check_bad(f"{twelve}\n{line}", 14)
        inner = "\n".join("  " + line for line in twelve.split("\n"))
        self.assertEqual(len(read_way(f"head 1\ntunnel 1 turn\n{inner}\njoin 1")), 2)
        self.check_bad(f"head 1\ntunnel 1 turn\n{inner}\n  join 1\njoin 1", 16)
        ends = "\n".join(["head 1"] + ["join 1"] * 11)
        self.assertEqual(len(read_way(f"{ends}\ntunnel 1 turn\n  head 1\n  join 1\n  join 1")), 12)
        self.check_bad(f"{ends}\ntunnel 1 turn\n  head 1\n  join 1\njoin 1", 16)

    def test_too_deep(self):
        lines = ["head 1", "tunnel 1 turn", "  head 1", "  tunnel 1 turn", "    head 1"]
        self.assertEqual(read_way("\n".join([*lines, "    join 1"])).depth, 3)
        self.check_bad("\n".join([*lines, "    tunnel 1 turn", "      head 1", "      join 1"]), 6)
        self.check_bad("\n".join([*lines, "    join 1", "    tunnel 1 turn"]), 7)
        self.assertEqual(read_way("\n".join([*lines, "    join 1", "  tunnel 1 turn", "    head 1",
                                             "    join 1"])).depth, 3)

    def test_too_great(self):
        ten = ["tunnel 1 turn", "  head 1"] + ["  join 1"] * 10
        thirty_three = ["head 1"] + ten * 3
        lines = thirty_three + ["join 1"] * 7
        self.assertEqual(read_way("\n".join(lines)).size, 40)
        for line in ("join 1", "road 20 tell cut", "tunnel 1 turn"):
            self.check_bad("\n".join([*lines, line]), len(lines) + 1)
        # The 40th step can't be a tunnel: its inner way has a step, too.
        lines = thirty_three + ["join 1"] * 6
        self.check_bad("\n".join([*lines, "tunnel 1 turn", "  head 1", "  join 1"]), len(lines) + 1)
        lines = thirty_three + ["join 1"] * 5
        way = read_way("\n".join([*lines, "tunnel 1 turn", "  head 1", "  join 1"]))
        self.assertEqual(way.size, 40)
        self.check_bad("\n".join([*lines, "tunnel 1 turn", "  head 1", "  tunnel 1 turn"]), len(lines) + 3)
        self.check_bad("\n".join([*lines, "tunnel 1 turn", "  head 1", "  join 1", "  join 1"]), len(lines) + 4)
        self.check_bad("\n".join([*lines, "tunnel 1 turn", "  head 1"]), len(lines) + 3)

    def test_the_first_bad_line_is_told(self):
        self.check_bad("head 10\njoin x\nhead 0\n\n\n", 2)
        self.check_bad("head 0\njoin x", 1)


class AgainstAllLinesTest(TextTest):

    def check_text(self, text):
        line = plain_line(text)
        if line is None:
            self.assertEqual(way_text(read_way(text)), text)
        else:
            self.check_bad(text, line)
        return line

    def test_cut_off_behind_each_line_and_within_each_line(self):
        self.assertEqual(plain_line(DEEP), None)
        told = [self.check_text(DEEP[:at]) for at in range(len(DEEP) + 1)]
        self.assertGreater(len(set(told)), 8)

    def test_lines_left_out_doubled_put_in_and_moved(self):
        texts_of_ways = [DEEP] + [way_text(way) for way in mixed_ways(60, seed=13) if way.depth > 1]
        put_in = ["join 1", "  join 1", "    join 1", "head 3", "  head 3", "tunnel 2 turn", "  tunnel 2 keep", "",
                  "road 1000 drop cut", "  road 999 tell cut", "    road 9 tell tell", "      join 1"]
        dice = Dice(14)
        for text in texts_of_ways:
            lines = text.split("\n")
            for at in range(len(lines)):
                changed = [lines[:at] + lines[at + 1:], lines[:at + 1] + lines[at:], lines[:at] + ["  " + lines[at]]
                           + lines[at + 1:], lines[:at] + [lines[at].removeprefix("  ")] + lines[at + 1:],
                           lines[:at] + [dice.pick(put_in)] + lines[at:],
                           lines[:at] + [lines[at] + " "] + lines[at + 1:],
                           lines[:at] + [" " + lines[at]] + lines[at + 1:]]
                for one in changed:
                    self.check_text("\n".join(one))

    def test_characters_changed(self):
        dice = Dice(15)
        for way in mixed_ways(150, seed=16):
            text = way_text(way)
            for _ in range(12):
                at = dice.throw(len(text))
                self.check_text(text[:at] + dice.pick("0123456789 \nabcdehijklnoprtuw-+") + text[at + dice.throw(2):])

    def test_drawn_lines(self):
        dice = Dice(17)
        words = ["head 3", "head 1", "join 1", "join 5", "road 7 tell cut", "road 9 drop drop", "tunnel 1 turn",
                 "tunnel 2 keep"]
        for _ in range(1500):
            lines = ["head 3"]
            for _ in range(dice.throw(9)):
                lines.append("  " * dice.throw(4) + dice.pick(words))
                if not goes_on(lines) and dice.throw(8):
                    lines.pop()
            self.check_text("\n".join(lines))


if __name__ == "__main__":
    unittest.main()
