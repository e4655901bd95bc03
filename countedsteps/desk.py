"""A desk at which Counts are asked and changed by requests.

A request is a word and its values, with blanks between. READERS has, for each word, the function that makes
the values out of the words behind it, None if they are none; ANSWERS and CHANGES have what is then done.
"""

from countedsteps.counts import Counts
from countedsteps.errors import (
    BadLine, BadText, NoJourney, NoNumber, NoPlace, NothingDone, Short, Still, Unlike,
)
from countedsteps.journeys import is_journey, is_place, is_step
from countedsteps.lasts import first_outs, last_outs, share_last, sure_lasts
from countedsteps.ranks import Journeys
from countedsteps.stands import end_of, gone, is_had, some_journey, turned_counts, why_none
from countedsteps.texts import counts_of_lines, journey_text, number_of, steps_text
from countedsteps.trees import how_many
from countedsteps.visits import met_ahead, sure_beginning


def read_nothing(words):
    """No values."""
    return () if not words else None


def read_place(words):
    """A place."""
    return words if len(words) == 1 and is_place(words[0]) else None


def read_step(words):
    """Two unlike places."""
    return words if is_step(words) else None


def read_number(words):
    """A number."""
    number = number_of(words[0]) if len(words) == 1 else None
    return None if number is None else (number,)


def read_journey(words):
    """A journey, as one value."""
    return (words,) if is_journey(words) else None


def read_steps(words):
    """Two places, alike or not, and a number."""
    if len(words) != 3 or not is_place(words[0]) or not is_place(words[1]):
        return None
    number = number_of(words[2])
    return None if number is None else (words[0], words[1], number)


def tell_why(counts, _):
    """Why no journey has the counts."""
    reason = why_none(counts)
    return "had" if reason is None else " ".join(reason)


def tell_end(counts, _):
    """The end."""
    return end_of(counts)


def tell_many(counts, _):
    """How many journeys have the counts."""
    return str(how_many(counts))


def tell_least(counts, _):
    """The least journey."""
    journey = some_journey(counts)
    return "-" if journey is None else journey_text(journey)


def tell_counts(counts, _):
    """The counts in one line."""
    return "; ".join(counts.text.split("\n"))


def tell_sure(counts, _):
    """The steps that are the last ones in all journeys."""
    return steps_text(sure_lasts(counts))


def tell_meets(counts, _):
    """With which places every journey begins."""
    return " ".join(sure_beginning(counts))


def tell_last(counts, values):
    """To where the last step out of the place can lead."""
    return " ".join(last_outs(counts, values[0]) or ("-",))


def tell_first(counts, values):
    """To where the first step out of the place can lead."""
    return " ".join(first_outs(counts, values[0]) or ("-",))


def tell_share(counts, values):
    """In which share of the journeys the step is the last one out of its place."""
    upper, lower = share_last(counts, values[0], values[1])
    return f"{upper}/{lower}"


def tell_ahead(counts, values):
    """Whether one place is met ahead of the other one."""
    return met_ahead(counts, values[0], values[1])


def tell_journey(counts, values):
    """The journey with the number."""
    return journey_text(Journeys(counts)[values[0]])


def tell_number(counts, values):
    """The number of the journey."""
    return str(Journeys(counts).rank(values[0]))


def tell_begins(counts, values):
    """How many journeys begin with this one."""
    if not is_had(counts):
        return "0"
    first, beyond = Journeys(counts).between(values[0])
    return str(beyond - first)


def with_more(counts, values):
    """The Counts with further steps."""
    return counts + Counts(counts.start, (values,))


def with_fewer(counts, values):
    """The Counts without these steps."""
    return counts - Counts(counts.start, (values,))


def begun_at(counts, values):
    """The Counts that begin at the place."""
    return counts.begun(values[0])


def gone_to(counts, values):
    """What is left when the first step leads to the place."""
    if values[0] == counts.start:
        raise Still(values[0])
    return gone(counts, values[0])


def turned_round(counts, _):
    """The Counts of the turned journeys."""
    return turned_counts(counts)


READERS = {
    "why": read_nothing, "end": read_nothing, "many": read_nothing, "least": read_nothing, "counts": read_nothing,
    "sure": read_nothing, "meets": read_nothing, "last": read_place, "first": read_place, "share": read_step,
    "ahead": read_step, "journey": read_number, "number": read_journey, "begins": read_journey, "add": read_steps,
    "take": read_steps, "from": read_place, "go": read_place, "turn": read_nothing, "undo": read_nothing,
}
ANSWERS = {
    "why": tell_why, "end": tell_end, "many": tell_many, "least": tell_least, "counts": tell_counts,
    "sure": tell_sure, "meets": tell_meets, "last": tell_last, "first": tell_first, "share": tell_share,
    "ahead": tell_ahead, "journey": tell_journey, "number": tell_number, "begins": tell_begins,
}
CHANGES = {"add": with_more, "take": with_fewer, "from": begun_at, "go": gone_to, "turn": turned_round}


def read_request(request):
    """The pair (word, values) of the request; None if it is none."""
    words = tuple(request.split(" "))
    if words[0] not in READERS:
        return None
    read = READERS[words[0]]
    values = read(words[1:])
    return None if values is None else (words[0], values)


class Desk:
    """Counts as they are now, and as they were ahead of each change."""

    def __init__(self, counts):
        self._counts = counts
        self._done = []

    @property
    def counts(self):
        """The Counts as they are now."""
        return self._counts

    def __len__(self):
        return len(self._done)

    def answer(self, request):
        """The answer to the request."""
        read = read_request(request)
        if read is None:
            raise BadText()
        word, values = read
        try:
            return self._answered(word, values)
        except NoJourney:
            return "refused NoJourney"
        except Unlike:
            return "refused Unlike"
        except NothingDone:
            return "refused NothingDone"
        except NoPlace as no_place:
            return f"refused NoPlace {no_place.place}"
        except NoNumber as no_number:
            return f"refused NoNumber {no_number.number}"
        except Still as still:
            return f"refused Still {still.place}"
        except Short as short:
            return f"refused Short {short.one} {short.other} {short.lacking}"

    def _answered(self, word, values):
        """What is told, or done; what is refused raises an error ahead of each change."""
        if word in ANSWERS:
            tell = ANSWERS[word]
            return tell(self._counts, values)
        if word == "undo":
            self._undo()
        else:
            change = CHANGES[word]
            made = change(self._counts, values)
            self._done.append(self._counts)
            self._counts = made
        return "done"

    def _undo(self):
        """Undoes the last change that is not undone."""
        if not self._done:
            raise NothingDone()
        self._counts = self._done.pop()


def answers(text):
    """The answers of one Desk to the requests that stand behind the text of its Counts."""
    lines = text.split("\n")
    parting = lines.index("") if "" in lines else len(lines)
    # Where nothing stands ahead of the line that parts, it is itself no first line of Counts.
    desk = Desk(counts_of_lines(lines[:max(1, parting)]))
    if parting == len(lines):
        raise BadLine(len(lines))
    for at in range(parting + 1, len(lines)):
        if read_request(lines[at]) is None:
            raise BadLine(at)
    return [desk.answer(request) for request in lines[parting + 1:]]
