"""A shell, which works on a corridor by commands that are lines of text."""

from chairwalks.errors import ChairError, NoStation, NoWalker
from chairwalks.texts import corridor_text, parse_number

UNKNOWN = "unknown command"

# How many numbers stand behind the first word of each command.
NUMBERS = {
    "put": 2, "take": 2, "want": 2, "come": 2, "stay": 1, "undo": 0,
    "corridor": 0, "met": 0, "certificate": 0, "most": 1,
}


class Shell:
    """Does what lines of text say with one corridor, and answers with texts."""

    def __init__(self, corridor):
        self._corridor = corridor

    def execute(self, line):
        """Return the answer to any value: to a line with a command, what came of it."""
        if not isinstance(line, str):
            return UNKNOWN
        name, *words = line.split(" ")
        numbers = [parse_number(word) for word in words]
        if NUMBERS.get(name) != len(numbers) or None in numbers:
            return UNKNOWN
        try:
            return self._answer(name, numbers)
        except (ChairError, NoStation, NoWalker) as error:
            return "error " + type(error).__name__

    def _answer(self, name, numbers):
        """Return the answer to a command, unless the corridor raises an error."""
        corridor = self._corridor
        edits = {
            "put": corridor.put, "take": corridor.take, "want": corridor.want,
            "come": corridor.come, "stay": corridor.stay, "undo": corridor.undo,
        }
        if name in edits:
            edit = edits[name]
            version = edit(*numbers)
            return f"ok {version}"
        if name == "corridor":
            row, walkers, wants = corridor.state()
            return corridor_text(row, walkers, wants)
        if name == "met":
            return "yes" if corridor.met else "no"
        if name == "certificate":
            return corridor.certificate()[0]
        return str(corridor.most(numbers[0]))
