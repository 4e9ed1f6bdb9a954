"""Texts: kinds and histories as lines."""

from towerup.basics import is_below, is_between, is_name
from towerup.errors import BadHistory, BadText
from towerup.histories import MOST_EVENTS, check_sides, under_way_along
from towerup.kinds import MOST_ANSWERS, MOST_ARGUMENTS, MOST_METHODS, MOST_RESULTS, MOST_STATES, Kind

LAST_NAME = "zzzzzzzz"


def kind_text(kind):
    """The text of a kind."""
    lines = [f"kind {kind.states} {kind.start}"]
    for name in kind.names():
        lines.append(f"method {name} {kind.arguments(name)} {kind.results(name)}")
        for state in range(kind.states):
            for argument in range(kind.arguments(name)):
                answers = kind.answers(state, name, argument)
                lines.append(f"{state} {argument}" + "".join([f" {result}/{after}" for result, after in answers]))
    return "\n".join(lines)


def read_kind(text):
    """The kind of a text."""
    lines = _lines_of(text)
    states, start = _head_in(lines)
    methods = {}
    name = ""
    done = 1
    while done < len(lines) or not methods:
        name, arguments, results = _method_in(lines, done, name)
        done += 1
        rows = []
        for state in range(states):
            rows.append([_answers_in(lines, done + argument, (state, argument), (results, states))
                         for argument in range(arguments)])
            done += arguments
        methods[name] = (arguments, results, rows)
        # No text of a kind goes on here, so this line is wrong already if the text does.
        if done < len(lines) and (len(methods) == MOST_METHODS or name == LAST_NAME):
            raise BadText(done)
    return Kind(states, start, methods)


def history_text(kind, sides, history):
    """The text of a history, a line for each event."""
    under_way_along(kind, sides, history)
    return "\n".join([" ".join([str(part) for part in event]) for event in history])


def read_history(kind, sides, text):
    """The history of a text."""
    check_sides(sides)
    lines = _lines_of(text)
    events = [] if text == "" else [_event_of_line(line) for line in lines]
    try:
        under_way_along(kind, sides, events[:MOST_EVENTS])
    except BadHistory as wrong:
        raise BadText(wrong.index + 1)
    if len(events) > MOST_EVENTS:
        raise BadText(MOST_EVENTS + 1)
    return events


def _lines_of(text):
    if not isinstance(text, str):
        raise BadText(0)
    return text.split("\n")


def _words_of(lines, at):
    """The words of a line; none if it is missing."""
    return lines[at].split(" ") if at < len(lines) else []


def _head_in(lines):
    """(states, start) of the first line."""
    words = _words_of(lines, 0)
    if len(words) == 3 and words[0] == "kind":
        states, start = _number_of(words[1]), _number_of(words[2])
        if is_between(states, 1, MOST_STATES) and is_below(start, states):
            return (states, start)
    raise BadText(1)


def _method_in(lines, at, last):
    """(name, arguments, results) of a line, with a name behind the last one."""
    words = _words_of(lines, at)
    if len(words) == 4 and words[0] == "method" and is_name(words[1]) and words[1] > last:
        arguments, results = _number_of(words[2]), _number_of(words[3])
        if is_between(arguments, 1, MOST_ARGUMENTS) and is_between(results, 1, MOST_RESULTS):
            return (words[1], arguments, results)
    raise BadText(at + 1)


def _answers_in(lines, at, head, bounds):
    """The answers of a line that begins with the state and the argument of the head."""
    words = _words_of(lines, at)
    answers = [_answer_of(word) for word in words[2:]]
    is_right = words[:2] == [str(number) for number in head] and len(answers) <= MOST_ANSWERS
    if not is_right or not all([_is_answer(answer, bounds) for answer in answers]):
        raise BadText(at + 1)
    if not all([one < other for one, other in zip(answers, answers[1:])]):
        raise BadText(at + 1)
    return answers


def _answer_of(word):
    """The numbers that a slash parts."""
    return tuple([_number_of(part) for part in word.split("/")])


def _is_answer(answer, bounds):
    return len(answer) == 2 and all([is_below(number, bound) for number, bound in zip(answer, bounds)])


def _event_of_line(line):
    """The event of a line, None if it has another form; a number may be None and a name any word."""
    words = line.split(" ")
    if len(words) == 4 and words[0] == "call":
        return ("call", _number_of(words[1]), words[2], _number_of(words[3]))
    if len(words) == 3 and words[0] == "told":
        return ("told", _number_of(words[1]), _number_of(words[2]))
    return None


def _number_of(word):
    """The number of a word of one digit, None for another word; all numbers in texts are so small."""
    return int(word) if len(word) == 1 and "0" <= word <= "9" else None
