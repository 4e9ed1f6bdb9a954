"""Texts: [21.1] and [21.2]."""

import random
import re
import unittest

from tests.helper import lossy, not_between, odd_values, random_history, random_kind, rows_of, some_kinds
from towerup.errors import BadHistory, BadKind, BadSides, BadText
from towerup.histories import under_way
from towerup.kinds import Kind
from towerup.shelf import cell, flag, queue, swap
from towerup.texts import history_text, kind_text, read_history, read_kind


def slow_text(kind):
    lines = ["kind %d %d" % (kind.states, kind.start)]
    for name, (arguments, results, rows) in sorted(rows_of(kind).items()):
        lines.append("method %s %d %d" % (name, arguments, results))
        for state in range(kind.states):
            for argument in range(arguments):
                answers = ["%d/%d" % answer for answer in sorted(rows[state][argument])]
                lines.append(" ".join(["%d %d" % (state, argument)] + answers))
    return "\n".join(lines)


def begun_kind(lines, further):
    """A kind whose text begins with these lines, and has more of them if further is True; None if there is none.

    The lines are read with no care, completed by missing rows or one more method, and compared with the text.
    """
    heads = [re.fullmatch(r"kind (\d) (\d)", line) for line in lines[:1]]
    if not all(heads):
        return None
    states, start = map(int, heads[0].groups())
    methods, name = {}, None
    for line in lines[1:]:
        head = re.fullmatch(r"method ([a-z]+) (\d) (\d)", line)
        if head:
            name = head.group(1)
            if name in methods:
                return None
            arguments = int(head.group(2))
            methods[name] = (arguments, int(head.group(3)), [[[] for _ in range(arguments)] for _ in range(states)])
        else:
            row = re.fullmatch(r"(\d) (\d)((?: \d/\d)*)", line)
            if not row or name is None or int(row.group(1)) >= states or int(row.group(2)) >= methods[name][0]:
                return None
            answers = [tuple(map(int, answer.split("/"))) for answer in row.group(3).split()]
            methods[name][2][int(row.group(1))][int(row.group(2))] = answers
    for more in ({}, {"a": (1, 1, [[[]]] * states)}, {"zzzzzzzz": (1, 1, [[[]]] * states)}):
        try:
            kind = Kind(states, start, more | methods)
        except BadKind:
            continue
        text = slow_text(kind).split("\n")
        if text[:len(lines)] == lines and (not further or len(text) > len(lines)):
            return kind
    return None


def slow_fault(text):
    """The line of BadText by the words of [21.1], None if this is the text of a kind."""
    lines = text.split("\n")
    for many in range(1, len(lines) + 1):
        if begun_kind(lines[:many], many < len(lines)) is None:
            return many
    return None if slow_text(begun_kind(lines, False)) == text else len(lines) + 1


def slow_history_fault(kind, sides, text):
    lines = text.split("\n")
    events = []
    for number, line in enumerate([] if text == "" else lines, 1):
        call = re.fullmatch(r"call (0|[1-9]\d*) ([a-z]+) (0|[1-9]\d*)", line)
        told = re.fullmatch(r"told (0|[1-9]\d*) (0|[1-9]\d*)", line)
        if call:
            events.append(("call", int(call.group(1)), call.group(2), int(call.group(3))))
        elif told:
            events.append(("told", *map(int, told.groups())))
        else:
            return number
        try:
            under_way(kind, sides, events)
        except BadHistory:
            return number
    return None


def spoiled(rnd, lines):
    """The lines with something wrong, mostly."""
    lines = list(lines)
    at = rnd.randrange(len(lines))
    line = lines[at]
    draw = rnd.randrange(12)
    if draw == 0:
        del lines[at]
    elif draw == 1:
        lines.insert(at, line)
    elif draw == 2:
        lines.insert(at, rnd.choice(("", " ", "kind 2 0", "method a 1 1", "method zzzzzzzz 1 1", "0 0", "0 0 0/0", "x")))
    elif draw == 3:
        lines = lines[:at] + [line + rnd.choice(("", " ", " 0/0", " 9/9", "0", "/", " 3/7"))] + lines[at + 1:]
    elif draw == 4:
        lines[at] = rnd.choice((" ", "+", "-", "0")) + line
    elif draw == 5:
        place = rnd.randint(0, len(line))
        lines[at] = line[:place] + rnd.choice((" ", "0", "1", "9", "-", "+", "/", "a", "Z")) + line[place:]
    elif draw == 6:
        place = rnd.randrange(len(line) or 1)
        lines[at] = line[:place] + line[place + 1:]
    elif draw == 7:
        place = rnd.randrange(len(line) or 1)
        lines[at] = line[:place] + rnd.choice("0123456789 /az-") + line[place + 1:]
    elif draw == 8:
        words = line.split(" ")
        rnd.shuffle(words)
        lines[at] = " ".join(words)
    elif draw == 9:
        lines = lines[:at]
    elif draw == 10:
        lines = lines + rnd.choice(([""], ["", ""], ["0 0"], ["method zzzzzzzz 1 1"], ["method zzz 1 1", "0 0"], lines))
    else:
        other = rnd.randrange(len(lines))
        lines[at], lines[other] = lines[other], lines[at]
    return lines


class Kinds(unittest.TestCase):
    def drawn_kinds(self, rnd, many):
        return some_kinds() + [queue(1, 3), random_kind(rnd, 8, 4, 4, 8)] + [
            random_kind(rnd, rnd.choice((1, 2, 4, 8)), 4, 4, rnd.choice((1, 8))) for _ in range(many)]

    def fault(self, value):
        """The line of BadText, None if a kind is read."""
        try:
            kind = read_kind(value)
        except BadText as error:
            return error.line
        self.assertEqual(kind_text(kind), value)
        return None

    def test_there_and_back(self):
        rnd = random.Random(151)
        for kind in self.drawn_kinds(rnd, 150):
            text = kind_text(kind=kind)
            self.assertEqual(text, slow_text(kind))
            self.assertEqual(read_kind(text=text), kind)
            self.assertIsNone(slow_fault(text))

    def test_by_hand(self):
        text = "kind 2 0\nmethod clear 1 1\n0 0 0/0\n1 0 0/0\nmethod test 1 2\n0 0 0/1\n1 0 1/1"
        self.assertEqual(kind_text(flag()), text)
        self.assertEqual(read_kind(text), flag())
        self.assertEqual(kind_text(lossy()).split("\n")[:4], ["kind 3 0", "method ask 1 3", "0 0 0/0", "1 0 1/1 2/1"])
        self.assertEqual(kind_text(lossy()).split("\n")[-1], "2 1 0/1 1/1")
        self.assertEqual(kind_text(lossy()).split("\n")[6:8], ["0 0 0/1 1/2", "0 1"])

    def test_spoiled(self):
        rnd = random.Random(152)
        found = {}
        for kind in self.drawn_kinds(rnd, 60):
            lines = kind_text(kind).split("\n")
            for _ in range(25):
                some = spoiled(rnd, lines)
                if rnd.random() < 0.2:
                    some = spoiled(rnd, some or [""])
                text = "\n".join(some)
                told = slow_fault(text)
                self.assertEqual(self.fault(text), told, text)
                key = None if told is None else "behind" if told > len(some) else "last" if told == len(some) else "in"
                found[key] = found.get(key, 0) + 1
        self.assertGreater(min(found.get(key, 0) for key in (None, "behind", "last", "in")), 40, found)

    def test_each_line(self):
        for kind in (flag(), lossy(), cell(2), swap(2)):
            lines = kind_text(kind).split("\n")
            for at, line in enumerate(lines):
                words = line.split(" ")
                others = [
                    lines[:at] + lines[at + 1:], lines[:at] + [line] + lines[at:], lines[:at], lines[:at] + [""],
                    lines[:at] + [" " + line] + lines[at + 1:], lines[:at] + [line + " "] + lines[at + 1:],
                    lines[:at] + [line.replace(" ", "  ", 1)] + lines[at + 1:],
                    lines[:at] + [""] + lines[at:], lines[:at] + [line.upper()] + lines[at + 1:],
                    lines[:at] + ["method " + line] + lines[at + 1:]]
                for place, word in enumerate(words):
                    for other in ("+" + word, "-" + word, "0" + word, word + "0", "", "9", "8", "x", "5", "0/9", "9/0",
                                  "0/0/0", "/", "0/", "/0", "00/0", "0/00", "+0/0", "0/-0", "4/0"):
                        changed = words[:place] + [other] + words[place + 1:]
                        others.append(lines[:at] + [" ".join(changed)] + lines[at + 1:])
                for some in others:
                    text = "\n".join(some)
                    self.assertEqual(self.fault(text), slow_fault(text), text)

    def test_bounds(self):
        for text, line in (
                ("", 1), ("\n", 1), ("kind", 1), ("kind 2", 1), ("kind 2 0", 2), ("kind 2 0\n", 2), ("kind 0 0", 1),
                ("kind 9 0", 1), ("kind 8 7", 2), ("kind 8 8", 1), ("kind 2 2", 1), ("kind 10 0", 1), ("kind 2 0 ", 1),
                ("kind 2 -1", 1), ("Kind 2 0", 1), ("kind 1 0\nmethod a 1 1", 3), ("kind 1 0\nmethod a 1 1\n0 0", None),
                ("kind 1 0\nmethod a 0 1", 2), ("kind 1 0\nmethod a 5 1", 2), ("kind 1 0\nmethod a 4 4", 3),
                ("kind 1 0\nmethod a 1 5", 2), ("kind 1 0\nmethod a 1 0", 2), ("kind 1 0\nmethod A 1 1", 2),
                ("kind 1 0\nmethod abcdefghi 1 1", 2), ("kind 1 0\nmethod abcdefgh 1 1", 3),
                ("kind 1 0\nmethod a1 1 1", 2), ("kind 1 0\nmethod  1 1", 2), ("kind 1 0\nmethod a 1", 2),
                ("kind 1 0\nmethod a 2 1\n0 0\n0 0", 4), ("kind 1 0\nmethod a 2 1\n0 1", 3),
                ("kind 2 0\nmethod a 1 1\n0 0\n0 0", 4), ("kind 2 0\nmethod a 1 1\n0 0\n1 0", None),
                ("kind 1 0\nmethod a 1 1\n0 0 0/0 0/0", 3), ("kind 1 0\nmethod a 1 2\n0 0 1/0 0/0", 3),
                ("kind 1 0\nmethod a 1 2\n0 0 0/0 1/0", None), ("kind 1 0\nmethod a 1 1\n0 0 0/1", 3),
                ("kind 1 0\nmethod a 1 1\n0 0 1/0", 3), ("kind 1 0\nmethod b 1 1\n0 0\nmethod a 1 1\n0 0", 4),
                ("kind 1 0\nmethod b 1 1\n0 0\nmethod b 1 1\n0 0", 4),
                ("kind 1 0\nmethod b 1 1\n0 0\nmethod ba 1 1\n0 0", None)):
            self.assertEqual(slow_fault(text), line, text)
            self.assertEqual(self.fault(text), line, text)
        answers = [f"{told}/{after}" for told in (0, 1) for after in range(8)]
        rows = "\n".join(f"{state} 0" for state in range(1, 8))
        for many, line in ((7, None), (8, None), (9, 3), (16, 3)):
            text = "kind 8 0\nmethod a 1 2\n0 0 " + " ".join(answers[:many]) + "\n" + rows
            self.assertEqual((self.fault(text), slow_fault(text)), (line, line))

    def test_lines_behind_the_end(self):
        # Where the text of a kind may still go on, the line behind is wrong; where it may not, the last one is.
        method = "\nmethod {} 1 1\n0 0"
        four = "kind 1 0" + "".join(method.format(name) for name in "abcd")
        three = "kind 1 0" + "".join(method.format(name) for name in "abc")
        last = "kind 1 0" + method.format("zzzzzzzz")
        for text, line in ((four, None), (four + "\n", 9), (four + "\n0 0", 9), (four + method.format("e"), 9),
                           (three + "\n", 8), (three + "\n0 0", 8), (three + "\nmethod", 8), (three + "\n\n", 8),
                           (three + method.format("zzzzzzzz"), None), (three + method.format("zzzzzzzz") + "\n", 9),
                           (last, None), (last + "\n", 3), (last + method.format("a"), 3), (last + "\nx\ny", 3),
                           ("kind 1 0" + method.format("zzzzzzz") + "\n", 4),
                           ("kind 1 0" + method.format("zzzzzzz") + method.format("zzzzzzzz"), None)):
            self.assertEqual(slow_fault(text), line, text)
            self.assertEqual(self.fault(text), line, text)

    def test_any_value(self):
        for value in odd_values():
            if isinstance(value, str):
                self.assertEqual(self.fault(value), 1)
            else:
                with self.assertRaises(BadText) as caught:
                    read_kind(value)
                self.assertEqual(caught.exception.line, 0)

    def test_long_texts(self):
        self.assertEqual(self.fault("x\n" * 100000), 1)
        text = kind_text(flag())
        self.assertEqual(self.fault(text + "\n0 0" * 100000), 8)
        self.assertEqual(self.fault(text + "\nmethod zz 4 4\n" + "0 0 " + "0/0 " * 100000), 9)


class Histories(unittest.TestCase):
    def fault(self, kind, sides, text):
        try:
            told = read_history(kind, sides, text)
        except BadText as error:
            return error.line
        self.assertEqual(history_text(kind, sides, told), text)
        return None

    def test_there_and_back(self):
        rnd = random.Random(153)
        for kind in some_kinds() + [random_kind(rnd) for _ in range(60)]:
            sides = rnd.randint(1, 3)
            for length in (0, 1, rnd.randint(2, 59), 60):
                history = random_history(rnd, kind, sides, length)
                some = rnd.choice((list, tuple))(map(rnd.choice((list, tuple)), history))
                text = history_text(history=some, sides=sides, kind=kind)
                self.assertEqual(text, "\n".join(" ".join(map(str, event)) for event in history))
                told = read_history(text=text, sides=sides, kind=kind)
                self.assertEqual((told, type(told)), (history, list))
                self.assertTrue(all(type(event) is tuple for event in told))
                self.assertIsNone(slow_history_fault(kind, sides, text))

    def test_by_hand(self):
        history = [("call", 1, "set", 1), ("call", 0, "get", 0), ("told", 0, 1)]
        self.assertEqual(history_text(cell(2), 2, history), "call 1 set 1\ncall 0 get 0\ntold 0 1")
        self.assertEqual(read_history(cell(2), 2, "call 1 set 1\ncall 0 get 0\ntold 0 1"), history)
        self.assertEqual((history_text(cell(2), 2, []), read_history(cell(2), 2, "")), ("", []))

    def test_spoiled(self):
        rnd = random.Random(154)
        found = {True: 0, False: 0}
        for _ in range(500):
            kind = rnd.choice(some_kinds())
            sides = rnd.randint(1, 3)
            lines = history_text(kind, sides, random_history(rnd, kind, sides, rnd.randint(1, 14))).split("\n")
            text = "\n".join(spoiled(rnd, lines))
            told = slow_history_fault(kind, sides, text)
            self.assertEqual(self.fault(kind, sides, text), told, text)
            found[told is None] += 1
        self.assertGreater(min(found.values()), 20)

    def test_wrong_lines(self):
        for text, line in (
                ("", None), ("\n", 1), (" ", 1), ("call 0 get 0", None), ("call 0 get 0\n", 2), ("\ncall 0 get 0", 1),
                ("call 0 get 0 ", 1), (" call 0 get 0", 1), ("call  0 get 0", 1), ("call +0 get 0", 1),
                ("call 00 get 0", 1), ("call 0 get 00", 1), ("call 0 get -0", 1), ("call 0 get 1", 1),
                ("call 0 set 1", None), ("call 0 set 2", 1), ("call 0 put 0", 1), ("call 2 get 0", 1), ("call 0 get", 1),
                ("Call 0 get 0", 1), ("call get 0 0", 1), ("told 0 0", 1), ("call 0 get 0\ntold 0 1", None),
                ("call 0 get 0\ntold 0 2", 2), ("call 0 get 0\ntold 1 0", 2), ("call 0 get 0\ncall 0 get 0", 2),
                ("call 0 get 0\ntold 0", 2), ("call 0 get 0\ntold 0 01", 2), ("call 0 get 0\ntold 0 None", 2),
                ("call 0 get 0\n\ntold 0 0", 2), ("call 0 get 0\ntold 0 0\n", 3), ("call 0 get 0\nx\ny", 2),
                ("call 0 get 0\ntold 0 0 0", 2), ("call 0 get 10", 1), ("call 10 get 0", 1)):
            self.assertEqual(slow_history_fault(cell(2), 2, text), line, text)
            self.assertEqual(self.fault(cell(2), 2, text), line, text)

    def test_61_lines(self):
        turn = ["call 0 get 0", "told 0 0"]
        self.assertIsNone(self.fault(cell(2), 1, "\n".join(turn * 30)))
        self.assertEqual(self.fault(cell(2), 1, "\n".join(turn * 30 + turn[:1])), 61)
        self.assertEqual(self.fault(cell(2), 1, "\n".join(turn * 100)), 61)
        self.assertEqual(self.fault(cell(2), 1, "\n".join(turn * 30 + ["x"])), 61)
        self.assertEqual(self.fault(cell(2), 1, "\n".join(turn * 30 + [""])), 61)
        self.assertEqual(self.fault(cell(2), 1, "\n".join(turn * 29 + ["x"] + turn * 30)), 59)
        self.assertEqual(self.fault(cell(2), 1, "\n".join(turn * 29 + turn[:1] * 3)), 60)

    def test_wrong_arguments(self):
        for sides in not_between(1, 3):
            for value in ("", None, "x", [None]):
                with self.assertRaises(BadSides):
                    history_text(cell(2), sides, value)
                with self.assertRaises(BadSides):
                    read_history(cell(2), sides, value)
        for value in odd_values():
            if not isinstance(value, str):
                with self.assertRaises(BadText) as caught:
                    read_history(cell(2), 2, value)
                self.assertEqual(caught.exception.line, 0)
            if not isinstance(value, (list, tuple)):
                with self.assertRaises(BadHistory) as caught:
                    history_text(cell(2), 2, value)
                self.assertEqual(caught.exception.index, -1)
            with self.assertRaises(BadHistory) as caught:
                history_text(cell(2), 2, [("call", 1, "get", 0), value])
            self.assertEqual(caught.exception.index, 1)
        with self.assertRaises(BadHistory) as caught:
            history_text(cell(2), 1, [("call", 0, "get", 0), ("told", 0, 0)] * 31)
        self.assertEqual(caught.exception.index, -1)


if __name__ == "__main__":
    unittest.main()
