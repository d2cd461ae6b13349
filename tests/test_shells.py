"""Promise 18: shells."""

import unittest
from random import Random

from chairwalks import errors, shells
from chairwalks.corridors import Corridor, GuardedCorridor
from chairwalks.shells import Shell
from chairwalks.texts import corridor_text
from tests.support import (HUGE, ODD_VALUES, P, Q, Case, drawn_state, plain_edit, plain_met, plain_most, told)
from tests.test_corridors import NO_NUMBERS, edited, everything

UNKNOWN = "unknown command"
# How many numbers each command has.
COMMANDS = {"put": 2, "take": 2, "want": 2, "come": 2, "stay": 1, "undo": 0, "corridor": 0, "met": 0,
            "certificate": 0, "most": 1}
# None of these is written as a number of at most four digits.
NO_NUMBER_WORDS = ["00", "01", "001", "0000", "0001", "00000", "-0", "-1", "+0", "+1", "1_0", "1_000", "_1", "1_",
                   "10000", "12345", "99999", "100000", "9" * 40, "9" * 2000, "1.0", "1e1", "0x1", "1,0", "1-2", "a",
                   "None", "True", "for", "\u0661", "\u0967", "\uff11", "\u00b2", "\u2460", "\u4e00", "\u00bd", "1\n",
                   "\n1", "1\t", "\t1", "1\r", "1\u00a0", "\u30001", "1\x00", "1\x0b", "''", '"1"', "(1)", "1;", ""]


def start():
    return Corridor((2, 0, 0), Q, (0, 0, 2))


def command(name, number="0"):
    """A command with as many numbers as it has, all of them this one."""
    return " ".join([name] + [number] * COMMANDS[name])


class ShellCase(Case):
    def check_unknown(self, line):
        """Check that a line is unknown, and changes nothing."""
        corridor = edited(start(), 2)
        before = everything(corridor)
        self.assertEqual(repr(Shell(corridor).execute(line)), repr(UNKNOWN), line)
        self.assertEqual(everything(corridor), before)

    def check_error(self, corridor, line, name):
        """Check that a line is answered with the error of this name, and changes nothing."""
        self.assertTrue(issubclass(getattr(errors, name), Exception))
        before = everything(corridor)
        self.assertEqual(Shell(corridor).execute(line), f"error {name}", line)
        self.assertEqual(everything(corridor), before)


class Examples(Case):
    def test_shell(self):
        self.assertEqual(Shell(Corridor((1, 0), (), (0, 1))).execute('corridor'), '1,0 for 0,1')

    def test_execute(self):
        shell = Shell(Corridor((2, 0, 0), Q, (0, 0, 2)))
        answers = [shell.execute('met'), shell.execute('certificate'), shell.execute('most 2'),
                   shell.execute('most 3'), shell.execute('come 2 2'), shell.execute('put 1 1'),
                   shell.execute('met'), shell.execute('stay')]
        self.assertEqual(answers, ['no', 'bar', '1', 'error NoStation', 'error BadWay', 'ok 1', 'yes',
                                   'unknown command'])

    def test_each_name_is_defined_in_the_class_itself(self):
        self.assertEqual(Shell.__module__, shells.__name__)
        self.assertIn("execute", vars(Shell))


class Commands(ShellCase):
    def test_edits_and_undo(self):
        corridor = start()
        shell = Shell(corridor)
        lines = [("put 1 1", "ok 1"), ("want 2 3", "ok 2"), ("come 1 2", "ok 3"), ("stay 0", "ok 4"),
                 ("take 0 1", "ok 5"), ("undo", "ok 4"), ("want 0 500", "ok 5"), ("put 2 50", "ok 6")]
        for line, answer in lines:
            self.assertEqual(shell.execute(line), answer)
        self.assertEqual(corridor.edits(), (("put", 1, 1), ("want", 2, 3), ("come", 1, 2), ("stay", 0),
                                            ("want", 0, 500), ("put", 2, 50)))
        self.assertEqual(corridor.state(), ((2, 1, 50), ((0, 1), (0, 2), (1, 2)), (500, 0, 3)))
        for version in range(5, -1, -1):
            self.assertEqual(shell.execute("undo"), f"ok {version}")
        self.assertEqual(shell.execute("undo"), "error NothingToUndo")
        self.assertEqual(corridor, start())

    def test_queries(self):
        random = Random(37)
        for _ in range(150):
            row, walkers, wants = drawn_state(random)
            corridor = Corridor(row, walkers, wants)
            shell = Shell(corridor)
            met = plain_met(row, walkers, wants)
            self.assertEqual(shell.execute("corridor"), corridor_text(row, walkers, wants))
            self.assertEqual(shell.execute("met"), "yes" if met else "no")
            self.assertEqual(shell.execute("certificate"), "plan" if met else "bar")
            for station in range(len(row)):
                self.assertEqual(shell.execute(f"most {station}"), str(plain_most(row, walkers, station)))
            self.assertEqual(corridor.state(), (row, walkers, wants))

    def test_drawn_edits(self):
        random = Random(53)
        for _ in range(40):
            states = [drawn_state(random)]
            corridor = Corridor(*states[0])
            shell = Shell(corridor)
            for _ in range(30):
                name = random.choice(["put", "take", "want", "come", "stay"])
                values = [random.choice([0, 1, 1, 2, 3, 9, 40, 50, 51, 500, 501, 9999]) for _ in range(COMMANDS[name])]
                state, error = plain_edit(states[-1], (name, *values))
                found = shell.execute(" ".join([name] + [str(value) for value in values]))
                if error is None:
                    states.append(state)
                    self.assertEqual(found, f"ok {len(states) - 1}")
                else:
                    self.assertEqual(found, f"error {error[0]}")
                self.assertEqual(corridor.state(), states[-1])
                self.assertEqual(shell.execute("corridor"), corridor_text(*states[-1]))

    def test_versions_of_two_digits(self):
        shell = Shell(start())
        for version in range(1, 61):
            self.assertEqual(shell.execute("want 0 1"), f"ok {version}")
        self.assertEqual(shell.execute("want 0 1"), "error TooManyEdits")

    def test_more_chairs_than_a_row_may_have(self):
        shell = Shell(Corridor((50, 50, 50), ((0, 2),) * 40, (0, 0, 0)))
        self.assertEqual([shell.execute(f"most {station}") for station in range(3)], ["50", "90", "90"])


class Errors(ShellCase):
    def test_each_name(self):
        self.check_error(start(), "put 3 1", "NoStation")
        self.check_error(start(), "take 3 0", "NoStation")
        self.check_error(start(), "want 9999 999", "NoStation")
        self.check_error(start(), "come 3 0", "NoStation")
        self.check_error(start(), "come 2 3", "NoStation")
        self.check_error(start(), "most 9999", "NoStation")
        self.check_error(start(), "put 0 0", "BadCount")
        self.check_error(start(), "put 0 51", "BadCount")
        self.check_error(start(), "take 0 0", "BadCount")
        self.check_error(start(), "take 0 9999", "BadCount")
        self.check_error(start(), "put 0 49", "TooMuch")
        self.check_error(start(), "take 0 3", "TooFew")
        self.check_error(start(), "want 0 501", "BadWant")
        self.check_error(start(), "come 1 1", "BadWay")
        self.check_error(start(), "come 2 0", "BadWay")
        self.check_error(start(), "stay 3", "NoWalker")
        self.check_error(start(), "stay 9999", "NoWalker")
        self.check_error(start(), "undo", "NothingToUndo")
        self.check_error(Corridor((2, 0), ((0, 1),) * 40, (0, 0)), "come 0 1", "TooManyWalkers")
        for line in ("put 0 1", "take 0 1", "want 0 1", "come 0 1", "stay 0", "put 9 99", "stay 99"):
            self.check_error(edited(start(), 60), line, "TooManyEdits")
        self.check_error(GuardedCorridor((2, 0, 0), Q, (0, 0, 2), 2, 1), "take 0 2", "TooLow")
        self.check_error(GuardedCorridor((2, 0, 0), Q, (0, 0, 2), 2, 1), "stay 2", "TooLow")
        self.check_error(GuardedCorridor((2, 0, 0), Q, (0, 0, 2), 2, 1), "stay 3", "NoWalker")

    def test_a_guarded_corridor(self):
        corridor = GuardedCorridor((2, 0, 0), Q, (0, 0, 2), 2, 1)
        shell = Shell(corridor)
        self.assertEqual([shell.execute("corridor"), shell.execute("put 1 1"), shell.execute("most 2"),
                          shell.execute("stay 2"), shell.execute("stay 0"), shell.execute("undo")],
                         ["2,0,0 1-2 0-1 0-2 for 0,0,2", "ok 1", "2", "ok 2", "error TooLow", "ok 1"])


class Unknown(ShellCase):
    def test_other_numbers_of_words(self):
        for name, many in COMMANDS.items():
            for other in range(6):
                line = " ".join([name] + ["1"] * other)
                if other != many:
                    self.check_unknown(line)
                else:
                    self.assertNotEqual(Shell(start()).execute(line), UNKNOWN, line)

    def test_words_that_are_no_numbers(self):
        for word in NO_NUMBER_WORDS:
            for name, many in COMMANDS.items():
                for place in range(many):
                    words = [name] + ["1"] * many
                    words[place + 1] = word
                    self.check_unknown(" ".join(words))
            self.check_unknown(word)

    def test_numbers_of_one_to_four_digits(self):
        for number, answer in (("0", "ok 1"), ("9", "ok 1"), ("10", "ok 1"), ("99", "ok 1"), ("100", "ok 1"),
                               ("500", "ok 1"), ("999", "error BadWant"), ("1000", "error BadWant"),
                               ("9999", "error BadWant")):
            self.assertEqual(Shell(start()).execute(f"want 0 {number}"), answer)
        for name in ("put", "take", "want", "come", "most", "stay"):
            for number in ("1000", "9999"):
                self.assertIn(Shell(start()).execute(command(name, number)), ("error NoStation", "error NoWalker"))

    def test_spaces_and_line_feeds(self):
        for name in COMMANDS:
            line = command(name)
            self.assertNotEqual(Shell(start()).execute(line), UNKNOWN)
            for blank in (" ", "  ", "\n", "\t", "\r", "\r\n", "\x00", "\u00a0", "\u3000", "\x0b", "\ufeff"):
                self.check_unknown(line + blank)
                self.check_unknown(blank + line)
                self.check_unknown(blank + line + blank)
                if " " in line and blank != " ":
                    self.check_unknown(line.replace(" ", blank))
                    self.check_unknown(line.replace(" ", blank, 1))
                    self.check_unknown(line.replace(" ", f" {blank}", 1))

    def test_letters_in_capitals_and_other_names(self):
        for name in COMMANDS:
            line = command(name)
            for other in (line.upper(), line.title(), line[0] + line[1:].swapcase(), "x" + line, line[1:]):
                self.check_unknown(other)
        for name in ("attempt", "state", "walk", "edits", "read", "row", "walkers", "wants", "len", "str", "short",
                     "post", "least", "execute", "error", "ok", "unknown", "help", "quit", "version", "MOST_EDITS",
                     "_edit", "__init__", "for", "putt", "pu", "takes", "comes", "undone", "corridors", "", "put,",
                     "put:"):
            for many in range(3):
                self.check_unknown(" ".join([name] + ["0"] * many))

    def test_texts_of_other_scripts(self):
        for line in ("\u0440ut 0 1", "t\u0430ke 0 1", "m\u0435t", "m\u043est 0", "\uff4det", "\uff50\uff55\uff54 0 1",
                     "\u1d50et", "st\u00e4y 0", "met\u0301", "\u05de\u05d8", "\u6905\u5b50", "undo\u200b",
                     "want \u0660 1", "want 0 \u0661", "want 0 \U0001d7ce", "most \u2070", "corr\u0131dor",
                     "certi\ufb01cate"):
            self.check_unknown(line)

    def test_two_commands_at_once(self):
        for line in ("met met", "undo undo", "met\nmet", "met;met", "put 0 1 put 0 1", "put 0 1\nput 0 1", "met 0",
                     "corridor 0", "certificate 0", "undo 1", "undo 0"):
            self.check_unknown(line)

    def test_values_that_are_no_texts(self):
        for value in ODD_VALUES + NO_NUMBERS + [b"met", ["met"], ("met",), {"met": 1}, [["put", 0, 1]], HUGE,
                                                ("put", 0, 1), start(), Shell(start()), Shell]:
            self.check_unknown(value)

    def test_long_texts(self):
        for line in ("put " * 500, " " * 2000, "put 0 " + "1" * 1994, "m" * 2000, "stay " + "0" * 1995, "0 " * 1000):
            self.check_unknown(line)


class Corridors(ShellCase):
    def test_this_very_corridor(self):
        corridor = start()
        shell = Shell(corridor)
        self.assertEqual(corridor.put(1, 1), 1)
        self.assertEqual([shell.execute("met"), shell.execute("corridor")], ["yes", "2,1,0 1-2 0-1 0-2 for 0,0,2"])
        self.assertEqual(shell.execute("take 0 1"), "ok 2")
        self.assertEqual([len(corridor), corridor.row], [2, (1, 1, 0)])
        self.assertEqual(corridor.undo(), 1)
        self.assertEqual(shell.execute("undo"), "ok 0")
        self.assertEqual(corridor.state(), start().state())

    def test_two_shells_on_one_corridor(self):
        corridor = start()
        one, other = Shell(corridor), Shell(corridor)
        self.assertEqual([one.execute("put 0 1"), other.execute("put 0 1"), one.execute("put 0 1")],
                         ["ok 1", "ok 2", "ok 3"])
        self.assertEqual(other.execute("corridor"), one.execute("corridor"))
        self.assertEqual([other.execute("undo"), one.execute("undo"), other.execute("undo"), one.execute("undo")],
                         ["ok 2", "ok 1", "ok 0", "error NothingToUndo"])

    def test_shells_on_two_corridors(self):
        one, other = Shell(start()), Shell(start())
        self.assertEqual([one.execute("put 0 1"), other.execute("undo")], ["ok 1", "error NothingToUndo"])
        self.assertEqual(other.execute("corridor"), "2,0,0 1-2 0-1 0-2 for 0,0,2")

    def test_while_a_watch_of_the_same_corridor_runs(self):
        corridor = start()
        shell = Shell(corridor)
        answers = []

        def watch(given):
            before = everything(given)
            for line in ("put 0 1", "take 0 1", "want 0 1", "come 0 1", "stay 0", "undo", "put 9 99", "stay 99"):
                self.assertEqual(shell.execute(line), "error Busy")
                self.assertEqual(Shell(given).execute(line), "error Busy")
            for line in ("put", "undo 1", "put 00 1", None, "stay -1"):
                self.assertEqual(shell.execute(line), UNKNOWN)
            answers.append([shell.execute(line) for line in ("corridor", "met", "certificate", "most 2", "most 3")])
            self.assertEqual(everything(given), before)
        self.assertEqual(corridor.attempt([("put", 1, 1), ("stay", 0)], watch=watch), 2)
        self.assertEqual(answers, [["2,1,0 1-2 0-1 0-2 for 0,0,2", "yes", "plan", "2", "error NoStation"],
                                   ["2,1,0 0-1 0-2 for 0,0,2", "no", "bar", "1", "error NoStation"]])
        self.assertEqual(shell.execute("undo"), "ok 1")

    def test_while_a_watch_of_another_corridor_runs(self):
        corridor, other = start(), Corridor((1, 0), (), (0, 1))
        shell = Shell(corridor)
        answers = []
        self.assertEqual(other.attempt([("put", 0, 1)] * 2, watch=lambda given: answers.append(
            [shell.execute("put 0 1"), Shell(given).execute("put 0 1"), shell.execute("met")])), 2)
        self.assertEqual(answers, [["ok 1", "error Busy", "no"], ["ok 2", "error Busy", "no"]])
        self.assertEqual([shell.execute("undo"), Shell(other).execute("undo")], ["ok 1", "ok 1"])

    def test_answers_are_texts(self):
        for line in [command(name) for name in COMMANDS] + ["", None, 3, "put 1 1", "stay 1"]:
            self.assertIs(type(Shell(Corridor((2, 0, 0), P, (0, 0, 2))).execute(line)), str)

    def test_equal_calls_return_equal_results(self):
        shell = Shell(start())
        for line in ("corridor", "met", "certificate", "most 1", "most 9", "put 9 1", "what"):
            self.assertEqual(shell.execute(line), shell.execute(line))
        self.assertEqual(told(shell.execute, "corridor"), "2,0,0 1-2 0-1 0-2 for 0,0,2")


if __name__ == "__main__":
    unittest.main()
