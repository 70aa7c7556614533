"""A desk, at which a program is kept and asked by lines."""

from stilltold.ages import oldest
from stilltold.aparts import alike
from stilltold.errors import NoLine
from stilltold.keeping import Keeper
from stilltold.reading import read_program
from stilltold.showing import show_answer, show_history, show_program, show_stair
from stilltold.standing import most_held
from stilltold.ways import way_out
from stilltold.words import read_deed, read_note

ALONE = ("held", "stair", "most", "oldest", "text", "back")
WITH_TEXT = ("alike", "put")
PARTED = " / "


class Desk:
    """A keeper of the program that is read; what is said to it is answered by texts."""

    def __init__(self, text):
        self.keeper = Keeper(read_program(text))

    def say(self, line):
        """Do what the line says, or tell what it asks for."""
        if not isinstance(line, str) or "\n" in line:
            raise NoLine(line)
        word, blank, rest = line.partition(" ")
        if line in ALONE:
            return self.alone(line)
        if word == "way":
            return self.way(line, rest)
        if word in WITH_TEXT and blank == " ":
            return self.with_program(word, rest.replace(PARTED, "\n"))
        deed = read_deed(self.keeper.program()[1], line)
        # A deed that is called like a word of lines is not done by them.
        if deed is None or word in ALONE or word in WITH_TEXT:
            raise NoLine(line)
        return show_answer(self.keeper.do(deed))

    def alone(self, word):
        """The answer to a line of one word."""
        keeper = self.keeper
        if word == "held":
            return " ".join([show_answer(note) for note in keeper.held()]) if len(keeper) > 0 else "-"
        if word == "stair":
            return show_stair(keeper.stair())
        if word == "most":
            return str(most_held(keeper.program())[0])
        if word == "oldest":
            found = oldest(keeper.program())
            return str(found[1]) if found[0] == "age" else found[0]
        if word == "text":
            return show_program(keeper.program()).replace("\n", PARTED)
        keeper.back()
        return "done"

    def with_program(self, word, text):
        """The answer to a line with a program's text."""
        other = read_program(text)
        if word == "put":
            self.keeper.put(other)
            return "done"
        parting = alike(self.keeper.program(), other)
        return "alike" if parting is None else show_history(parting)

    def way(self, line, word):
        """The least way out of the note that is so written."""
        note = read_note(word)
        if note is None:
            raise NoLine(line)
        return show_history(way_out(self.keeper.program(), self.keeper.stair(), note))
