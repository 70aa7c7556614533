import inspect
import random
import re
import unittest

from stilltold.errors import NoText
from stilltold.programs import is_program
from stilltold.reading import read_guard, read_history, read_program
from stilltold.showing import show_guard, show_history, show_program
from tests.helper import (ANYTHING, ECHO, FIRST, GREATEST, JUDGED, MIDDLE, NOTHING, ORDER, PAIR, SECONDS, TURNS, TWINS,
                          Wrong, any_deeds, any_guard, any_history, any_program, choice_of_size, judged_choice,
                          kept_as_is, name, need)

NUMBER, WHOLE = "(0|[1-9][0-9]{0,69})", "(0|-?[1-9][0-9]{0,69})"
SIGNS = " \n-/0123456789abmz(),;@.A~"
NO_TEXTS = [thing for thing in ANYTHING if type(thing) is not str] + [b"", b"cells", ["cells"], ("cells",)]


def row_words(row, *forms):
    """The words of a row whose words have these forms."""
    found = re.fullmatch(" ".join("(" + form + ")" for form in forms), row)
    need(found is not None)
    return row.split(" ")


def choice_by_stack(cells, many, text):
    """The choice that is so written, read sign by sign with a stack."""
    tokens = re.findall("[a-z]+[0-9]?|[0-9]+|[(),;]", text)
    need("".join(tokens) == text)
    frames, at, value = [], 0, None
    while value is None or frames:
        if value is None:
            need(at < len(tokens))
            word, at = tokens[at], at + 1
            if tokens[at:at + 1] == ["("]:
                need(word in ("kth", "greatest", "least") and len(frames) < 30)
                frames.append(([word], []))
                at += 1
                if word == "kth":
                    need(tokens[at + 1:at + 2] == [";"] and re.fullmatch(NUMBER, tokens[at]))
                    frames[-1][0].append(int(tokens[at]))
                    at += 2
            elif word in ("came0", "came1"):
                value = ("came", int(word[-1]))
            else:
                need(word == "none" or name(word))
                value = ("none",) if word == "none" else ("cell", word)
        else:
            need(at < len(tokens) and tokens[at] in (",", ")"))
            frames[-1][1].append(value)
            value = None
            if tokens[at] == ")":
                ahead, parts = frames.pop()
                value = (*ahead, tuple(parts))
            at += 1
    need(at == len(tokens) and judged_choice(cells, many, value))
    return value


class ProgramByRows:
    """A program's rows one after the other: what may stand next hangs on what stood ahead."""

    def __init__(self):
        self.cells, self.deeds, self.modes, self.told, self.last = None, [], [], True, 0

    def row(self, row):
        word = row.partition(" ")[0]
        need(word in ("cells", "deed", "mode", "on", "set", "tell") and (self.cells is None) == (word == "cells"))
        getattr(self, word)(row)

    def cells_row(self, row):
        need(re.fullmatch("cells( [a-z]{1,8}){0,6}", row))
        self.cells = tuple(row.split(" ")[1:])
        need(all(name(cell) for cell in self.cells) and len(set(self.cells)) == len(self.cells))

    def deed(self, row):
        word, called, many = row_words(row, "deed", "[a-z]{1,8}", "[012]")
        need(name(called) and called not in dict(self.deeds) and len(self.deeds) < 4 and not self.modes)
        self.deeds.append((called, int(many)))

    def mode(self, row):
        need(row == "mode" and self.deeds and len(self.modes) < 6 and self.whole())
        self.modes.append([])

    def whole(self):
        return all(len(mode) == len(self.deeds) for mode in self.modes)

    def on(self, row):
        word, called, after = row_words(row, "on", "[a-z]{1,8}", NUMBER)
        need(self.modes and not self.whole() and called == self.deeds[len(self.modes[-1])][0])
        self.modes[-1].append([int(after), [None] * len(self.cells), None])
        self.told, self.last = False, 0

    def set(self, row):
        word, cell, choice = row_words(row, "set", "[a-z]{1,8}", "[^ ]+")
        need(self.modes and self.modes[-1] and not self.told and cell in self.cells[self.last:])
        at = self.cells.index(cell)
        self.modes[-1][-1][1][at] = choice_by_stack(self.cells, self.many(), choice)
        self.last = at + 1

    def tell(self, row):
        word, choice = row_words(row, "tell", "[^ ]+")
        need(self.modes and self.modes[-1] and not self.told)
        self.modes[-1][-1][2] = choice_by_stack(self.cells, self.many(), choice)
        self.told = True

    def many(self):
        return self.deeds[len(self.modes[-1]) - 1][1]

    def program(self):
        need(self.modes and self.whole())
        need(all(after < len(self.modes) for mode in self.modes for after, becomes, tells in mode))
        modes = tuple(tuple((after, tuple(becomes), tells) for after, becomes, tells in mode) for mode in self.modes)
        return (self.cells, tuple(self.deeds), modes)


def program_by_rows(text):
    """The program that is so written, or the number of the row."""
    reader, rows = ProgramByRows(), text.split("\n")
    for at, row in enumerate(rows):
        try:
            if at == 0:
                reader.cells_row(row)
            else:
                reader.row(row)
        except Wrong:
            return at
    try:
        return reader.program()
    except Wrong:
        return len(rows)


def guard_by_rows(deeds, text):
    places, rows, names = [], text.split("\n"), [called for called, many in deeds]
    for at, row in enumerate(rows):
        try:
            if row == "place":
                need(len(places) < 4)
                places.append({})
            else:
                word, called, behind = row_words(row, "let", "[a-z]{1,8}", NUMBER)
                need(places and called in names and all(names.index(called) > number for number in places[-1]))
                places[-1][names.index(called)] = int(behind)
        except Wrong:
            return at
    guard = tuple(tuple(place.get(number) for number in range(len(deeds))) for place in places)
    return guard if all(behind is None or behind < len(guard) for place in guard for behind in place) else len(rows)


def history_by_pattern(deeds, text):
    one = "(" + "|".join(called + (" " + WHOLE) * many for called, many in deeds) + ")"
    if text == "-":
        return ()
    if not re.fullmatch(one + "(, " + one + ")*", text):
        return 0
    rows = [part.split(" ") for part in text.split(", ")]
    return tuple((called,) + tuple(int(number) for number in numbers) for called, *numbers in rows)


class Reading(unittest.TestCase):
    def result(self, function, *given):
        """What is read, or the number of the row that is refused."""
        try:
            return function(*given)
        except NoText as refusal:
            self.assertIs(type(refusal), NoText)
            self.assertIs(type(refusal.row), int)
            return refusal.row

    def program(self, text, expected=None):
        result = self.result(read_program, text)
        self.assertEqual(repr(result), repr(program_by_rows(text)), text)
        if expected is not None:
            self.assertEqual(result, expected, text)
        return result

    def rows(self, *rows, expected=None):
        return self.program("\n".join(rows), expected)

    def spoilt(self, chance, text, many):
        """Texts that differ from this one in one sign."""
        for times in range(many):
            at, sign = chance.randrange(len(text) + 1), chance.choice(SIGNS)
            yield text[:at] + sign + text[at:]
            yield text[:at] + sign + text[at + 1:]
            yield text[:at] + text[at + 1:]

    def other_rows(self, text):
        """Texts with one row left out, twice, exchanged with the next one, put at the end, cut off, or empty."""
        rows = text.split("\n")
        for at in range(len(rows)):
            for others in (rows[:at] + rows[at + 1:], rows[:at] + [rows[at]] * 2 + rows[at + 1:],
                           rows[:at] + rows[at + 1:at + 2] + rows[at:at + 1] + rows[at + 2:],
                           rows[:at] + rows[at + 1:] + rows[at:at + 1], rows[:at], rows[:at] + [""] + rows[at:],
                           rows[:at] + [rows[at] + " "] + rows[at + 1:], rows[:at] + [" " + rows[at]] + rows[at + 1:],
                           rows[:at] + [rows[at].replace(" ", "  ")] + rows[at + 1:],
                           rows[:at] + [rows[at] + " a"] + rows[at + 1:]):
                yield "\n".join(others)


class Programs(Reading):
    def test_by_hand(self):
        self.rows("cells", "deed ask 0", "mode", "on ask 0", expected=NOTHING)
        self.rows("cells top", "deed top 1", "deed ask 0", "mode", "on top 0", "set top greatest(top,came0)",
                  "on ask 0", "tell top", expected=GREATEST)
        self.rows("cells", "deed say 2", "mode", "on say 1", "tell came0", "mode", "on say 0", "tell came1",
                  expected=ECHO)

    def test_no_text(self):
        for thing in NO_TEXTS:
            self.assertEqual(self.result(read_program, thing), 0)

    def test_anything_as_text(self):
        for thing in ANYTHING:
            if type(thing) is str:
                self.program(thing, 0)
        self.program("", 0)
        self.program("\n", 0)
        self.program("\n\n", 0)

    def test_the_first_row(self):
        for row in ("cell", "cells ", " cells", "cells  a", "cells a ", "Cells", "cells A", "cells a1", "cells a a",
                    "cells a b a", "cells none", "cells cell", "cells came", "cells kth", "cells greatest",
                    "cells least", "cells abcdefghi", "cells a b c d e f g", "cells a,b", "cells -", "deed a 0", "mode",
                    "cellsa"):
            self.rows(row, "deed ask 0", "mode", "on ask 0", expected=0)
        for row in ("cells a", "cells abcdefgh", "cells a b c d e f", "cells cells", "cells camea nonea", "cells set"):
            self.assertNotIsInstance(self.rows(row, "deed ask 0", "mode", "on ask 0"), int)

    def test_deeds(self):
        for row in ("deed", "deed x", "deed x 3", "deed x -1", "deed x -0", "deed x 00", "deed x 01", "deed x 1 1",
                    "deed x  1", "deed x 1 ", " deed x 1", "deed X 1", "deed abcdefghi 1", "deed none 1", "deed kth 0",
                    "deed x one", "deed x 2" + "0" * 70, "Deed x 1", "deeds x 1", "", "mode", "on x 0", "tell none",
                    "cells"):
            self.rows("cells a", row, "mode", "on x 0", expected=1)
        self.rows("cells a", "deed x 1", "deed x 1", "mode", "on x 0", "on x 0", expected=2)
        self.rows("cells a", "deed x 1", "deed x 2", "mode", "on x 0", "on x 0", expected=2)
        for many in range(6):
            deeds = ["deed %s 0" % called for called in "xyzuv"[:many]]
            rows = ["cells x y"] + deeds + ["mode"] + ["on %s 0" % called for called in "xyzuv"[:many]]
            result = self.rows(*rows)
            self.assertEqual(result if type(result) is int else None, {0: 1, 5: 5}.get(many))

    def test_where_more_must_come(self):
        rows = show_program(PAIR).split("\n")
        modes = [at for at, row in enumerate(rows) if row == "mode"]
        for many in range(1, len(rows)):
            result = self.rows(*rows[:many])
            self.assertTrue(result == many or is_program(result))
        # The first mode alone leads from turn to the second one, which is missing.
        self.rows(*rows[:modes[1]], expected=modes[1])
        for many in range(1, modes[0] + 1):
            self.rows(*rows[:many], expected=many)

    def test_modes(self):
        for many in range(8):
            rows = ["cells", "deed x 0"] + ["mode", "on x 0"] * many
            result = self.rows(*rows)
            self.assertEqual(result if type(result) is int else None, {0: 2, 7: 14}.get(many))
        for row in ("mode ", " mode", "mode 0", "Mode", "modes", "", "on x 0", "set a none", "tell none", "deed y 0"):
            self.rows("cells a", "deed x 0", row, "on x 0", expected=3 if row == "deed y 0" else 2)
        self.rows("cells a", "deed x 0", "deed y 0", "mode", "on x 0", "mode", "on x 0", "on y 0", expected=5)
        self.rows("cells a", "deed x 0", "mode", "on x 0", "deed y 0", expected=4)
        self.rows("cells a", "deed x 0", "mode", "on x 0", "cells a", expected=4)
        self.rows("cells a", "deed x 0", "mode", "mode", "on x 0", expected=3)

    def test_on_of_just_the_next_deed(self):
        for row in ("on y 0", "on z 0", "on x", "on x 0 0", "on x -1", "on x 00", "on x 01", "on x -0", "on  x 0",
                    "on x 0 ", "on x a", "on x " + "1" * 71, "on", "", "set a none", "tell a"):
            self.rows("cells a", "deed x 1", "deed y 1", "mode", row, "on y 0", expected=4)
        self.rows("cells a", "deed x 1", "deed y 1", "mode", "on x 0", "on x 0", "on y 0", expected=5)
        self.rows("cells a", "deed x 1", "deed y 1", "mode", "on x 0", "on y 0", "on x 0", expected=6)
        self.rows("cells a", "deed x 1", "deed y 1", "mode", "on x 0", "on y 0", "on y 0", expected=6)
        self.rows("cells a", "deed x 1", "deed y 1", "mode", "on x 0", expected=5)

    def test_an_after_that_is_no_modes_number(self):
        for after in ("1", "2", "10", "6", "1" * 70):
            self.rows("cells a", "deed x 1", "mode", "on x " + after, expected=4)
            self.rows("cells a", "deed x 1", "mode", "on x " + after, "set a none", "tell a", expected=6)
            # Rows that can't stand come first.
            self.rows("cells a", "deed x 1", "mode", "on x " + after, "set a none", "tell b", expected=5)
            self.rows("cells a", "deed x 1", "mode", "on x " + after, "mode", expected=5)
        self.assertNotIsInstance(self.rows("cells", "deed x 1", "mode", "on x 1", "mode", "on x 0"), int)
        self.rows("cells", "deed x 1", "mode", "on x 1", "mode", "on x 2", expected=6)

    def test_set_of_a_cell_behind_the_last_one_set(self):
        def told(*sets):
            return self.rows("cells a b c", "deed x 1", "mode", "on x 0", *sets, "tell b")

        for right in ((), ("set a b",), ("set c b",), ("set a b", "set b c"), ("set a b", "set c b"),
                      ("set a a", "set b b", "set c c")):
            self.assertNotIsInstance(told(*right), int)
        for wrong, row in ((("set b a", "set a b"), 5), (("set a b", "set a b"), 5), (("set c a", "set b a"), 5),
                           (("set a b", "set c b", "set b b"), 6), (("set d a",), 4), (("set a",), 4), (("set",), 4),
                           (("set a b c",), 4), (("set a  b",), 4), (("set a b ",), 4), (("set none a",), 4),
                           (("set a d",), 4), (("set x came0",), 4), (("set a b", ""), 5)):
            self.assertEqual(told(*wrong), row)

    def test_tell_once_and_last(self):
        ahead = ("cells a b", "deed x 1", "deed y 0", "mode", "on x 0", "tell a")
        self.rows(*ahead, "tell a", "on y 0", expected=6)
        self.rows(*ahead, "tell b", "on y 0", expected=6)
        self.rows(*ahead, "set a b", "on y 0", expected=6)
        self.rows(*ahead, "on y 0", "tell a", "tell a", expected=8)
        self.rows(*ahead, "on y 0", "tell a", "mode", "on x 0", "on y 0", "set b a", "tell none", "set a b",
                  expected=13)
        self.assertNotIsInstance(self.rows(*ahead, "on y 0", "tell b"), int)
        for row in ("tell", "tell ", "tell a b", "tell  a", "tell a ", " tell a", "Tell a", "tells a"):
            self.rows("cells a b", "deed x 1", "mode", "on x 0", row, expected=4)

    def test_a_whole_text(self):
        for text in ("cells a\ndeed x 0\nmode\non x 0\n", "cells a\ndeed x 0\nmode\non x 0\n\n"):
            self.program(text, 4)
        self.program("\ncells a\ndeed x 0\nmode\non x 0", 0)
        self.program("cells a\n\ndeed x 0\nmode\non x 0", 1)


class Choices(Reading):
    def tell(self, text, many=1):
        """What a text of a choice is read as: the choice, or None."""
        result = self.rows("cells a b abcdefgh", "deed x %d" % many, "mode", "on x 0", "tell " + text)
        if type(result) is int:
            self.assertEqual(result, 4)
            return None
        return result[2][0][0][2]

    def test_right(self):
        one, other = ("cell", "a"), ("cell", "b")
        for text, choice in (("none", ("none",)), ("a", one), ("abcdefgh", ("cell", "abcdefgh")),
                             ("came0", FIRST), ("kth(1;a)", ("kth", 1, (one,))),
                             ("kth(5;a,a,b,b,none)", ("kth", 5, (one, one, other, other, ("none",)))),
                             ("greatest(a,least(came0))", ("greatest", (one, ("least", (FIRST,)))))):
            self.assertEqual(self.tell(text), choice)
        self.assertEqual(self.tell("came1", 2), ("came", 1))

    def test_unknown_cells_and_numbers(self):
        for text in ("c", "x", "A", "ab", "a1", "abcdefghi", "came", "cell", "kth", "greatest", "least", "came2",
                     "came1", "came00", "came01", "came-1", "came", "camea", "nonea", "none0", "0", "1", "-", "a-b",
                     "@", "a.b"):
            self.assertIsNone(self.tell(text))
        self.assertIsNone(self.tell("came0", 0))
        self.assertIsNone(self.tell("came2", 2))
        self.assertIsNone(self.tell("greatest(a,came1)"))

    def test_brackets(self):
        for text in ("()", "(a)", "a()", "none()", "came0()", "a(b)", "greatest", "greatest(", "greatest()",
                     "greatest)", "greatest(a", "greatest(a))", "greatest(a,)", "greatest(,a)", "greatest(a,,b)",
                     "greatest(a;b)", "greatest(1;a)", "greatest(a)b", "greatest(a)(b)", "greatest((a))", "least(a),b",
                     "a,b", "least(a b)", "Greatest(a)", "greatest(a,b", "greatest(least(a)", "least(a)least(b)",
                     "largest(a)", ",", ";", "a;"):
            self.assertIsNone(self.tell(text))

    def test_ranks(self):
        for text in ("kth(a)", "kth(;a)", "kth(1)", "kth(1;)", "kth(1,a)", "kth(0;a)", "kth(2;a)", "kth(3;a,b)",
                     "kth(01;a)", "kth(-1;a)", "kth(1;a;b)", "kth(a;a)", "kth(1;;a)", "kth(+1;a)", "kth(1.0;a)",
                     "kth(", "kth(1", "kth(1;", "kth()", "kth(1" + "0" * 69 + ";a)", "kth(1" + "0" * 80 + ";a)",
                     "kth(1;a", "kth(6;a,a,a,a,a,a)"):
            self.assertIsNone(self.tell(text))
        for k in range(1, 6):
            self.assertEqual(self.tell("kth(%d;a,b,a,b,a)" % k)[1], k)

    def test_how_many_parts(self):
        for word in ("greatest(", "least(", "kth(1;"):
            for many in range(1, 8):
                self.assertIs(self.tell(word + ",".join("a" * many) + ")") is not None, many <= 5)

    def test_depth(self):
        for word in ("greatest(", "least(", "kth(1;"):
            for depth in range(1, 12):
                self.assertIs(self.tell(word * (depth - 1) + "a" + ")" * (depth - 1)) is not None, depth <= 8)

    def test_size(self):
        for size in (1, 2, 3, 30, 59, 60, 61, 62, 90):
            choice = choice_of_size(size, FIRST)
            text = show_program(((), (("x", 1),), (((0, (), choice),),))).rpartition(" ")[2]
            self.assertEqual(self.tell(text), choice if size <= 60 else None)

    def test_very_deep(self):
        for many in (100, 1500, 3000):
            for text in ("kth(1;" * many + "a" + ")" * many, "least(" * many, "(" * many, ")" * many, "kth(" * many,
                         "greatest(a," * many, "least(" * many + "a", "least(a)" + ")" * many):
                if len(text) < 19000:
                    self.assertIsNone(self.tell(text))
        self.assertIsNone(self.tell("greatest(" + ",".join("a" * 9000) + ")"))
        self.assertIsNone(self.tell("a" * 19000))


class ByChance(Reading):
    def test_programs_with_one_sign_otherwise(self):
        chance = random.Random(251)
        rows = {}
        for program in JUDGED + tuple(any_program(chance, None, 3) for turn in range(25)):
            for text in self.spoilt(chance, show_program(program), 40):
                result = self.program(text)
                kind = "row" if type(result) is int else "program"
                rows[kind] = rows.get(kind, 0) + 1
        self.assertGreater(min(rows.values()), 30)

    def test_programs_with_other_rows(self):
        chance = random.Random(252)
        for program in JUDGED + tuple(any_program(chance, None, 3) for turn in range(25)):
            for text in self.other_rows(show_program(program)):
                result = self.program(text)
                if type(result) is not int:
                    self.assertTrue(is_program(result))

    def test_guards_with_one_sign_otherwise(self):
        chance = random.Random(253)
        pairs = [(PAIR[1], ORDER), (SECONDS[1], TURNS), (SECONDS[1], TWINS)]
        for turn in range(25):
            deeds = any_deeds(chance)
            pairs.append((deeds, any_guard(chance, deeds)))
        for deeds, guard in pairs:
            text = show_guard(deeds, guard)
            for other in [*self.spoilt(chance, text, 40), *self.other_rows(text)]:
                self.assertEqual(repr(self.result(read_guard, deeds, other)), repr(guard_by_rows(deeds, other)), other)

    def test_histories_with_one_sign_otherwise(self):
        chance = random.Random(254)
        for turn in range(40):
            program = any_program(chance)
            history = any_history(chance, program, chance.randint(0, 5), numbers=(-10, -1, 0, 1, 12))
            text = show_history(history)
            for other in [text, *self.spoilt(chance, text, 40)]:
                expected = history_by_pattern(program[1], other)
                self.assertEqual(repr(self.result(read_history, program[1], other)), repr(expected), other)


class Guards(Reading):
    def guard(self, *rows, expected):
        text = "\n".join(rows)
        self.assertEqual(guard_by_rows(PAIR[1], text), expected)
        self.assertEqual(self.result(read_guard, PAIR[1], text), expected)

    def test_by_hand(self):
        self.guard("place", expected=((None, None, None),))
        self.guard("place", "let put 0", "let turn 0", "let one 0", expected=((0, 0, 0),))
        self.guard("place", "let put 1", "place", "let turn 1", "let one 2", "place", expected=ORDER)
        self.guard("place", "place", "let one 2", "place", expected=((None,) * 3, (None, None, 2), (None,) * 3))

    def test_no_text(self):
        for thing in NO_TEXTS:
            self.assertEqual(self.result(read_guard, PAIR[1], thing), 0)
        for thing in ("", "\n", "let put 0", "let", " place", "place ", "Place", "places", "place 0", "-"):
            self.assertEqual(self.result(read_guard, PAIR[1], thing), 0)

    def test_rows_that_can_not_stand(self):
        for row in ("let", "let put", "let put -1", "let put 01", "let put 00", "let put -0", "let put 0 0",
                    "let  put 0", "let put 0 ", " let put 0", "Let put 0", "let pull 0", "let put " + "1" * 71, "",
                    "mode", "let put a"):
            self.guard("place", row, expected=1)
            self.guard("place", "place", row, "place", expected=2)
        self.guard("place", "let turn 0", "let put 0", expected=2)
        self.guard("place", "let turn 0", "let turn 0", expected=2)
        self.guard("place", "let one 0", "let turn 0", expected=2)
        self.guard("place", "let one 0", "place", "let turn 0", expected=((None, None, 0), (None, 0, None)))

    def test_places(self):
        self.guard("place", "place", "place", "place", expected=((None,) * 3,) * 4)
        self.guard("place", "place", "place", "place", "place", expected=4)
        self.guard("place", "let put 1", expected=2)
        self.guard("place", "let put 2", "place", "let put 1", expected=4)
        self.guard("place", "let put " + "1" * 70, "place", expected=3)
        self.guard("place", "let put 7", "let put 7", expected=2)


class Histories(Reading):
    def history(self, text, expected):
        self.assertEqual(repr(self.result(read_history, PAIR[1], text)), repr(expected), text)
        self.assertEqual(repr(history_by_pattern(PAIR[1], text)), repr(expected), text)

    def test_by_hand(self):
        self.history("-", ())
        self.history("turn", (("turn",),))
        self.history("one 5, turn", (("one", 5), ("turn",)))
        self.history("put 0 -1, put 10 -10", (("put", 0, -1), ("put", 10, -10)))
        self.history("one " + "7" * 70, (("one", int("7" * 70)),))
        self.history("one -" + "7" * 70, (("one", -int("7" * 70)),))

    def test_no_text(self):
        for thing in NO_TEXTS:
            self.assertEqual(self.result(read_history, PAIR[1], thing), 0)

    def test_wrong(self):
        for text in ("", " ", ",", ", ", "--", "- ", " -", "-, turn", "turn, -", "turn,", "turn, ", ", turn",
                     "turn ,turn", "turn,turn", "turn,  turn", "turn , turn", " turn", "turn ", "turn 1", "turn  ",
                     "one", "one 1 2", "one  1", "one a", "one -", "one 01", "one 00", "one -0", "one -01", "one +1",
                     "one --1", "one 1-", "one 1.0", "put 1", "put 1 2 3", "put 1,2", "pull 1", "One 1", "one 1\n",
                     "one 1\nturn", "\n", "turn\nturn", "one " + "7" * 71, "one -" + "7" * 71, "ask"):
            self.history(text, 0)


class Handed(unittest.TestCase):
    def test_names(self):
        for function, names in ((read_program, ["text"]), (read_guard, ["deeds", "text"]),
                                (read_history, ["deeds", "text"])):
            self.assertEqual(list(inspect.signature(function).parameters), names)
        self.assertEqual(read_program(text=show_program(MIDDLE)), MIDDLE)
        self.assertEqual(read_guard(text="place", deeds=NOTHING[1]), ((None,),))
        self.assertEqual(read_history(text="ask", deeds=NOTHING[1]), (("ask",),))

    def test_asked_again(self):
        kept_as_is(self, read_program, show_program(PAIR))
        kept_as_is(self, read_guard, PAIR[1], show_guard(PAIR[1], ORDER))
        kept_as_is(self, read_history, PAIR[1], "put 1 2, turn")
        hash((read_program(show_program(PAIR)), read_guard(PAIR[1], show_guard(PAIR[1], ORDER))))


if __name__ == "__main__":
    unittest.main()
