import inspect
import unittest

from roadsizes import console as console_file
from roadsizes.console import Console
from roadsizes.errors import (
    BadBody, BadCommand, BadHead, BadName, BadRoad, BadStep, BadSteps, Held, Hopeless, NameTaken, TooDeep, TooFar,
    TooGreat, TooSmall, UnknownName,
)
from roadsizes.nets import Net
from tests.helpers import Raising, not_integers, run_examples

EXAMPLES = """
    >>> from roadsizes.console import Console
    >>> console = Console()
    >>> told = [console.say("road a 14 tell cut"), console.say("way w 10"), console.say("step road a"), console.say("done")]
    >>> [told, console.say("loose w 9"), console.say("send w 9"), console.say("losses w"), console.say("form w")]
    [['ok', 'ok', 'ok', 'ok'], 'comes 3 1', 'told 14 0', '0', '4 14\\nnone\\n4']
"""

GREATEST = 10 ** 18

# Each command with the numbers of words that are numbers.
COMMANDS = {
    "road c 30 tell cut": (2,), "set a 30 tell cut": (2,), "way x 10": (2,), "step road a": (), "step join 3": (2,),
    "step tunnel in 4 keep": (3,), "done": (), "send out 12": (2,), "loose out 12": (2,), "carry out 12": (2,),
    "losses out": (), "worst out": (), "form out": (), "undo 1": (1,),
}


def told(console, *commands):
    return [console.say(command) for command in commands]


def small_console():
    console = Console()
    told(console, "road a 30 tell cut", "road b 25 tell drop", "way in 5", "step road a", "step road b", "done",
         "way out 10", "step tunnel in 4 keep", "done")
    return console


def console_with_a_way():
    """A console in which a way was begun that may be done."""
    console = small_console()
    told(console, "way new 9", "step join 2")
    return console


class ConsoleTest(Raising):

    def check(self, console, command, answer):
        said = console.say(command)
        self.assertIs(type(said), str)
        self.assertEqual(said, answer)

    def check_bad(self, console, command):
        self.assert_raises(BadCommand, command, console.say, command)

    def check_refused(self, command, console=None):
        """The command is none, and neither the net nor the way that was begun is changed."""
        console = console_with_a_way() if console is None else console
        before = console.net.fork()
        self.check_bad(console, command)
        self.assertEqual(console.net, before)
        self.check(console, "done", "ok")
        self.assertEqual(console.net.way("new").steps, (("join", 2),))


class ExamplesTest(unittest.TestCase):

    def test_examples(self):
        run_examples(self, EXAMPLES)


class InterfaceTest(ConsoleTest):

    def test_the_class_itself_has_the_method(self):
        self.assertEqual(Console.__module__, console_file.__name__)
        self.assertEqual(str(inspect.signature(vars(Console)["say"])), "(self, command)")
        self.assertEqual(list(inspect.signature(Console).parameters), [])

    def test_arguments_by_name(self):
        self.assertEqual(Console().say(command="road a 14 tell cut"), "ok")

    def test_consoles_have_their_own_nets(self):
        first, second = Console(), Console()
        told(first, "road a 14 tell cut", "way w 10")
        self.assertEqual(second.say("road a 15 tell cut"), "ok")
        self.check_bad(second, "step join 1")


class AnswersTest(ConsoleTest):

    def test_roads_and_ways(self):
        console = Console()
        commands = ["road a 30 tell cut", "road b 2 drop drop", "set b 25 tell drop", "way in 5", "step road a",
                    "step join 3", "step road b", "done", "way out 10", "step tunnel in 4 keep",
                    "step tunnel in 1000000000000 lose", "done"]
        for command in commands:
            self.check(console, command, "ok")
        net = Net()
        net.add_road("a", 30, "tell", "cut")
        net.add_road("b", 25, "tell", "drop")
        net.add_way("in", 5, [("road", "a"), ("join", 3), ("road", "b")])
        net.add_way("out", 10, [("tunnel", "in", 4, "keep"), ("tunnel", "in", 10 ** 12, "lose")])
        self.assertEqual(console.net, net)

    def test_send(self):
        console = small_console()
        for command, answer in (("send out 0", "comes 1 0"), ("send out 10", "comes 1 10"),
                                ("send out 12", "silent 0.1"), ("send out 12", "told 20 0"),
                                ("send out 10", "comes 1 10"), ("send in 26", "told 30 0"), ("send in 25",
                                                                                             "told 25 1")):
            self.check(console, command, answer)
        self.assert_raises(Held, 20, console.say, "send out 11")
        self.assert_raises(Held, 25, console.say, "send in 21")

    def test_loose(self):
        console = small_console()
        told(console, "way free 4", "step road a", "done")
        for command, answer in ((f"loose free {GREATEST}", f"comes {-(-GREATEST // 26)} {GREATEST % 26 or 26}"),
                                ("loose in 25", "silent 1"), ("loose in 20", "comes 1 20"), ("loose out 11",
                                                                                             "silent 0.1"),
                                ("loose out 10", "comes 1 10"), ("loose out 0", "comes 1 0"),
                                (f"send free {GREATEST}", "told 30 0"), (f"loose free {26 * 3 + 2}", "comes 4 2")):
            self.check(console, command, answer)

    def test_places_of_inner_ways(self):
        console = small_console()
        told(console, "way top 3", "step join 1", "step tunnel out 1 turn", "done")
        for answer in ("silent 1.0.1", "told 10 1.0"):
            self.check(console, "send top 8", answer)
        self.check(console, "loose top 8", "silent 1.0.1")
        self.check(console, "send top 7", "comes 1 7")

    def test_sizes_of_0_and_less(self):
        console = Console()
        told(console, "road a 12 tell cut", "way low 4", "step road a", "done", "way mid 11", "step tunnel low 1 turn",
             "done", "way top 1", "step tunnel mid 1 turn", "done")
        self.check(console, "form top", "-1 -3\n-1 -\nnone")
        self.check(console, "send top 0", "told -3 0.0.0")
        self.assert_raises(Held, -3, console.say, "send top 0")

    def test_carry(self):
        console = small_console()
        for command, answer in (("carry out 30", "30 3 4"), (f"carry out {GREATEST}", f"{GREATEST} {GREATEST // 10} 0"),
                                ("carry out 0", "0 1 0"), ("carry in 0", "0 1 0"), ("carry in 26", "26 2 2")):
            self.check(console, command, answer)
        told(console, "road d 20 drop cut", "way w 10", "step road d", "done")
        self.check(console, "carry w 11", "0 0 0")

    def test_losses_and_worst(self):
        console = small_console()
        for answer, row in (("4", "16 16 11 11"), ("3", "16 11 11")):
            self.check(console, "losses out", answer)
            self.check(console, "worst out", row)
            console.say("send out 16")
        self.check(console, "carry out 30", "30 3 2")
        self.check(console, "losses out", "0")
        self.check(console, "worst out", "none")

    def test_form(self):
        console = small_console()
        told(console, "road d 13 drop cut", "road e 18 tell cut", "way w 10", "step road e", "step join 3",
             "step road d",
             "done", "way none 10", "step join 1", "done", "way cuts 10", "step road e", "step road d", "done")
        self.check(console, "form w", "8 18, 3 -\n24 -\n3")
        self.check(console, "form none", "none\nnone\nnone")
        self.check(console, "form cuts", "8 18, 3 -\nnone\n8 3")
        self.check(console, "form in", "25 30, 20 25\n20 -\nnone")
        self.check(console, "form out", "10 -\n10 -\nnone")
        console.say("send out 11")
        self.check(console, "form out", "10 -\n10 -\nnone")

    def test_undo(self):
        console = small_console()
        told(console, "send out 12", "send out 12")
        self.check(console, "undo 1", "ok")
        self.check(console, "send out 11", "told 20 0")
        self.check(console, "undo 0", "ok")
        self.check(console, "undo 3", "ok")
        self.assertEqual(console.net.ways, ["in"])
        self.check(console, "undo 3", "ok")
        self.assertEqual(console.net, Net())

    def test_undo_behind_refused_commands(self):
        console = small_console()
        count = 4
        refused = ["road a 30 tell cut", "road c 1 tell cut", "set a 5 tell cut", "set x 30 tell cut", "send x 3",
                   f"send out {GREATEST + 1}", "undo 5", "losses x", "carry out x", "done", "step join 1", "road", ""]
        for command in refused:
            with self.assertRaises(ValueError):
                console.say(command)
        told(console, "form out", "losses out", "worst out", "way x 10", "step join 1")
        self.assert_raises(TooFar, count, console.say, f"undo {count + 1}")
        # A way that was begun is not in the net.
        self.check(console, "undo 1", "ok")
        self.check(console, "done", "ok")
        self.assertEqual(console.net.ways, ["in", "x"])


class BegunWaysTest(ConsoleTest):

    def test_no_way_is_begun(self):
        for console in (Console(), small_console()):
            for command in ("step road a", "step join 3", "step tunnel in 4 keep", "done"):
                self.check_bad(console, command)

    def test_not_in_the_net_before_it_is_done(self):
        console = console_with_a_way()
        self.assertEqual(console.net, small_console().net)
        with self.assertRaises(UnknownName):
            console.say("losses new")
        self.check(console, "done", "ok")
        self.check_bad(console, "done")
        self.check_bad(console, "step join 3")
        self.assertEqual(console.net.way("new").steps, (("join", 2),))

    def test_a_way_that_is_begun_anew(self):
        console = console_with_a_way()
        told(console, "way other 7", "step join 5", "done")
        self.assertEqual((console.net.ways, console.net.way("other").steps), (["in", "out", "other"], (("join", 5),)))
        self.check_bad(console, "done")
        told(console, "way new 9", "way new 9", "step join 1", "way new 8", "step join 4", "done")
        self.assertEqual((console.net.way("new").head, console.net.way("new").steps), (8, (("join", 4),)))

    def test_refused_steps(self):
        for command in ("step", "step road", "step join", "step join x", "step join 01", "step tunnel",
                        "step tunnel in",
                        "step tunnel in 4", "step tunnel in x keep", "step tunnel in 4 keep 4", "step road a 30",
                        "step x 1",
                        "step road a b", "step join 3 3", "Step join 3", "step  join 3", "step join  3", "step way 3"):
            self.check_refused(command)

    def test_steps_that_are_none_are_refused_by_done(self):
        for step in ("road x", "road in", "road A", "join 0", "join 1000000000001", "tunnel x 1 keep",
                     "tunnel a 1 keep",
                     "tunnel in 0 keep", "tunnel in 1 tell", f"join {10 ** 59}"):
            console = console_with_a_way()
            self.check(console, f"step {step}", "ok")
            self.check(console, "step join 0", "ok")
            for _ in range(2):
                self.assert_raises(BadStep, 1, console.say, "done")
            self.assertEqual(console.net, small_console().net)
            self.check(console, "way new 9", "ok")

    def test_a_refused_done_leaves_the_way(self):
        console = small_console()
        console.say("way new 9")
        with self.assertRaises(BadSteps) as caught:
            console.say("done")
        self.assertEqual(list(caught.exception.value), [])
        told(console, "step road c", "step join 3")
        self.assertEqual(list(caught.exception.value), [])
        self.assert_raises(BadStep, 0, console.say, "done")
        told(console, "road c 40 tell cut", "done")
        self.assertEqual(console.net.way("new").steps, (("road", 40, "tell", "cut"), ("join", 3)))

    def test_errors_of_done(self):
        for begin, kind, value in (("way new 0", BadHead, 0), ("way new 41", BadHead, 41), ("way A 5", BadName, "A"),
                                   ("way abcdefghi 41", BadName, "abcdefghi"), ("way in 41", NameTaken, "in"),
                                   ("way a 41", NameTaken, "a"), (f"way new {10 ** 59}", BadHead, 10 ** 59)):
            console = small_console()
            self.check(console, begin, "ok")
            with self.assertRaises(kind) as caught:
                console.say("done")
            self.assertEqual(list(vars(caught.exception).values()), [value])

    def test_too_many_steps(self):
        console = small_console()
        told(console, "way new 9", *["step join 1"] * 13)
        with self.assertRaises(BadSteps) as caught:
            console.say("done")
        self.assertEqual(list(caught.exception.value), [("join", 1)] * 13)
        told(console, "way new 9", *["step join 1"] * 12)
        self.check(console, "done", "ok")

    def test_too_deep_and_too_great(self):
        console = small_console()
        told(console, "way top 9", "step tunnel out 1 turn", "done", "way more 9", "step tunnel top 1 turn")
        self.assert_raises(TooDeep, 4, console.say, "done")
        told(console, "way ten 9", *["step join 1"] * 10, "done", "way more 9", *["step tunnel ten 1 turn"] * 4)
        self.assert_raises(TooGreat, 44, console.say, "done")

    def test_other_commands_leave_the_way(self):
        console = console_with_a_way()
        told(console, "road c 9 tell cut", "set c 50 tell cut", "send out 12", "loose out 3", "carry out 30",
             "losses out",
             "worst out", "form in", "undo 1", "step road c", "done")
        self.assertEqual(console.net.way("new").steps, (("join", 2), ("road", 50, "tell", "cut")))


class BadCommandTest(ConsoleTest):

    def test_values_that_are_no_string(self):
        for value in not_integers() + [0, 1, -1, Net(), Console(), ["done"], ("done",), ["undo", "0"],
                                       {"done": "done"}]:
            self.check_refused(value)

    def test_the_commands_are_right(self):
        for command in COMMANDS:
            self.assertIs(type(console_with_a_way().say(command)), str)

    def test_a_word_too_few_or_too_many(self):
        for command in COMMANDS:
            self.check_refused(" ".join(command.split(" ")[:-1]))
            for more in ("x", "3", "done", "tell"):
                self.check_refused(f"{command} {more}")

    def test_spaces(self):
        for command in COMMANDS:
            for one in (f" {command}", f"{command} ", f"  {command}", f"{command}  "):
                self.check_refused(one)
            words = command.split(" ")
            for at in range(1, len(words)):
                self.check_refused(" ".join(words[:at]) + "  " + " ".join(words[at:]))
                self.check_refused(" ".join([*words[:at], "", *words[at + 1:]]))
        for command in ("", " ", "  ", "\n"):
            self.check_refused(command)

    def test_wrong_words(self):
        for command in COMMANDS:
            for one in (command.upper(), command.title(), f"x{command}", f"/{command}",
                        f"{command.split(' ')[0]}s x 1"):
                self.check_refused(one)
        for command in ("roads", "way", "tunnel in 4 keep", "join 3", "help", "step", "hopeless out", "fork",
                        "forget out"):
            self.check_refused(command)

    def test_newlines(self):
        for command in COMMANDS:
            for one in (f"\n{command}", f"{command} \n", f"{command}\n{command}"):
                self.check_refused(one)
            if " " in command:
                self.check_refused(command.replace(" ", "\n", 1))
        for command in ("done\n", "undo 1\n", "undo\n1", "send out 12\n", "step join 3\n", "losses\nout", "\ndone"):
            self.check_refused(command)
        # A newline is no space: it is part of a word, and no name has one.
        for command, kind, value in (("losses out\n", UnknownName, "out\n"), ("road c\n 30 tell cut", BadName, "c\n")):
            with self.assertRaises(kind) as caught:
                small_console().say(command)
            self.assertEqual(list(vars(caught.exception).values()), [value])

    def test_numbers(self):
        for command, places in COMMANDS.items():
            words = command.split(" ")
            for at in places:
                for number in ("-1", "+1", "-0", "01", "00", "1.0", "1e3", "x", "0x1", "1_0", "--1", "1" * 61, "0" * 60,
                               "9" * 5000, "ten", "None", "True", "\u0661", "\u00b2", "1\t"):
                    self.check_refused(" ".join([*words[:at], number, *words[at + 1:]]))

    def test_numbers_of_sixty_digits(self):
        great = 10 ** 60 - 1
        for command, kind, value in (("road c {} tell cut", BadRoad, (great, "tell", "cut")),
                                     ("set a {} tell cut", BadRoad, (great, "tell", "cut")),
                                     ("send out {}", BadBody, great), ("loose out {}", BadBody, great),
                                     ("carry out {}", BadBody, great), ("undo {}", TooFar, 4)):
            with self.assertRaises(kind) as caught:
                small_console().say(command.format(great))
            self.assertEqual(list(vars(caught.exception).values()), [value])
        for command in ("way x {}", "step join {}", "step tunnel in {} keep"):
            self.check(console_with_a_way(), command.format(great), "ok")


class ErrorsTest(ConsoleTest):

    def check_error(self, command, kind, value, *before):
        console = console_with_a_way()
        told(console, *before)
        same = console.net.fork()
        with self.assertRaises(kind) as caught:
            console.say(command)
        self.assertIs(type(caught.exception), kind)
        self.assertEqual(list(vars(caught.exception).values()), [value])
        self.assertEqual(console.net, same)
        self.check(console, "done", "ok")

    def test_of_roads(self):
        self.check_error("road A 30 tell cut", BadName, "A")
        self.check_error("road abcdefghi 1 tell cut", BadName, "abcdefghi")
        self.check_error("road a 1 x y", NameTaken, "a")
        self.check_error("road out 30 tell cut", NameTaken, "out")
        self.check_error("road c 1 tell cut", BadRoad, (1, "tell", "cut"))
        self.check_error("road c 1001 tell cut", BadRoad, (1001, "tell", "cut"))
        self.check_error("road c 30 cut cut", BadRoad, (30, "cut", "cut"))
        self.check_error("road c 30 tell keep", BadRoad, (30, "tell", "keep"))
        self.check_error("set c 30 tell cut", UnknownName, "c")
        self.check_error("set out 30 tell cut", UnknownName, "out")
        self.check_error("set a 30 Tell cut", BadRoad, (30, "Tell", "cut"))
        self.check_error("set a 5 tell cut", TooSmall, "in")

    def test_of_letters(self):
        for kind in ("send", "loose", "carry"):
            self.check_error(f"{kind} new 3", UnknownName, "new")
            self.check_error(f"{kind} a {GREATEST + 1}", UnknownName, "a")
            self.check_error(f"{kind} out {GREATEST + 1}", BadBody, GREATEST + 1)
        self.check_error("send out 11", Held, 20, "send out 12", "send out 12")

    def test_of_what_is_asked(self):
        for kind in ("losses", "worst", "form"):
            for name in ("new", "a", "OUT", "1", "~"):
                self.check_error(f"{kind} {name}", UnknownName, name)
        for kind in ("losses", "worst"):
            self.check_error(f"{kind} out", Hopeless, 11, "set b 25 drop drop")
        self.check_error("undo 5", TooFar, 4)


if __name__ == "__main__":
    unittest.main()
