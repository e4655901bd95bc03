"""Texts of journeys, Counts and Windows, written and read."""

from countedsteps.counts import Counts
from countedsteps.errors import BadLine, BadText
from countedsteps.journeys import is_journey
from countedsteps.windows import Windows

DIGITS = "0123456789"
HEAD_WORD = "from"


def journey_text(journey):
    """The text of the journey."""
    return " > ".join(journey)


def journey_of(text):
    """The journey that has this text."""
    journey = tuple(text.split(" > "))
    if not is_journey(journey):
        raise BadText()
    return journey


def number_of(word):
    """The number that is written by the word in digits, without leading zeros; None if there is none."""
    # Methods such as isdigit take digits of other scripts, too.
    if word == "" or not all([sign in DIGITS for sign in word]) or (word[0] == "0" and word != "0"):
        return None
    return int(word)


def head_of(line):
    """The places behind the word from, neighbours unlike; () if the line is not so written."""
    words = tuple(line.split(" "))
    return words[1:] if words[0] == HEAD_WORD and is_journey(words[1:]) else ()


def pair_of(line, size):
    """The pair of so many places, neighbours unlike, and their number; None if the line is not so written."""
    words = tuple(line.split(" "))
    number = number_of(words[-1])
    if len(words) != size + 1 or not is_journey(words[:-1]) or number is None or number < 1:
        return None
    return (words[:-1], number)


def pairs_of_lines(lines, size):
    """The pairs that the lines behind the first one write, each for other places; raises BadLine."""
    met = {}
    for at in range(1, len(lines)):
        pair = pair_of(lines[at], size)
        if pair is None or pair[0] in met:
            raise BadLine(at)
        met[pair[0]] = pair[1]
    return [(places, met[places]) for places in met]


def counts_of_lines(lines):
    """The Counts that the lines, one or more, write; raises BadLine."""
    head = head_of(lines[0])
    if len(head) != 1:
        raise BadLine(0)
    return Counts(head[0], [(one, other, number) for (one, other), number in pairs_of_lines(lines, 2)])


def counts_of(text):
    """The Counts that the text writes."""
    return counts_of_lines(text.split("\n"))


def windows_text(windows):
    """The text of the Windows."""
    rows = [" ".join([*window, str(number)]) for window, number in windows.pairs]
    return "\n".join([" ".join([HEAD_WORD, *windows.head]), *rows])


def windows_of(text):
    """The Windows that the text writes."""
    lines = text.split("\n")
    head = head_of(lines[0])
    if not head:
        raise BadLine(0)
    return Windows(len(head) + 1, head, pairs_of_lines(lines, len(head) + 1))


def steps_text(steps):
    """The two places of each step, the steps with a comma between; - for none."""
    return ", ".join([f"{one} {other}" for one, other in steps]) if steps else "-"
