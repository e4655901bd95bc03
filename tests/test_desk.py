"""Points 1, 2, 3 and 20: a desk."""

import itertools
import random
import re
import unittest

from countedsteps.counts import Counts
from countedsteps.desk import Desk, answers
from countedsteps.errors import BadLine, BadText
from countedsteps.journeys import exits
from countedsteps.ranks import Journeys
from countedsteps.stands import why_none
from countedsteps.texts import journey_text
from helping import GREAT, NOT_HAD, Raising, followed, ratio, walked

SHEET = "from a\na b 1\na c 1\nb c 1\nb d 1\nc a 1\nc b 1"
PLACE, NUMBER = "[a-z]{1,8}", "(0|[1-9][0-9]*)"
FORMS = [
    "why|end|many|least|counts|sure|meets|turn|undo", f"(last|first|from|go) {PLACE}", f"(share|ahead) {PLACE} {PLACE}",
    f"journey {NUMBER}", f"(number|begins)( {PLACE})+", f"(add|take) {PLACE} {PLACE} {NUMBER}",
]


class Refused(Exception):
    """What the model refuses, with the words behind refused."""


class Model:
    """A desk that a test keeps by itself: it looks through all journeys for each answer."""

    def __init__(self, start, steps):
        self.start = start
        self.many = {(one, other): many for one, other, many in steps}
        self.before = []

    def counts(self):
        return Counts(self.start, [(*step, many) for step, many in self.many.items()])

    def places(self):
        return sorted({self.start, *[place for step, many in self.many.items() if many for place in step]})

    def journeys(self):
        found = followed(self.counts())
        if not found:
            raise Refused("NoJourney")
        return found

    def check(self, *places):
        for place in places:
            if place not in self.places():
                raise Refused(f"NoPlace {place}")

    def answer(self, request):
        word, *values = request.split(" ")
        try:
            return getattr(self, f"tell_{word}")(*values)
        except Refused as refused:
            return f"refused {refused}"

    def change(self, start, many):
        self.before.append((self.start, self.many))
        self.start, self.many = start, many
        return "done"

    def tell_why(self):
        return " ".join(why_none(self.counts()) or ["had"])

    def tell_end(self):
        return self.journeys()[0][-1]

    def tell_many(self):
        return str(len(followed(self.counts())))

    def tell_least(self):
        return " > ".join((followed(self.counts()) or ["-"])[0])

    def tell_counts(self):
        rows = [f"{one} {other} {many}" for (one, other), many in sorted(self.many.items()) if many]
        return "; ".join([f"from {self.start}", *rows])

    def outs(self, place, at):
        journeys = self.journeys()
        self.check(place)
        return [exits(journey, place)[at] for journey in journeys if exits(journey, place)]

    def tell_sure(self):
        self.journeys()
        rows = [(place, sorted(set(self.outs(place, -1)))) for place in self.places()]
        return ", ".join(f"{place} {others[0]}" for place, others in rows if len(others) == 1) or "-"

    def tell_meets(self):
        journeys = self.journeys()
        same = [row[0] for row in itertools.takewhile(lambda row: len(set(row)) == 1, zip(*journeys))]
        return " ".join(same)

    def tell_last(self, place):
        return " ".join(sorted(set(self.outs(place, -1)))) or "-"

    def tell_first(self, place):
        return " ".join(sorted(set(self.outs(place, 0)))) or "-"

    def tell_share(self, one, other):
        journeys = self.journeys()
        self.check(one, other)
        return "{}/{}".format(*ratio(self.outs(one, -1).count(other), len(journeys)))

    def tell_ahead(self, one, other):
        journeys = self.journeys()
        self.check(one, other)
        words = [journey.index(one) < journey.index(other) for journey in journeys]
        return "always" if all(words) else "sometimes" if any(words) else "never"

    def tell_journey(self, number):
        journeys = self.journeys()
        if int(number) >= len(journeys):
            raise Refused(f"NoNumber {number}")
        return " > ".join(journeys[int(number)])

    def tell_number(self, *places):
        journeys = self.journeys()
        if places not in journeys:
            raise Refused("Unlike")
        return str(journeys.index(places))

    def tell_begins(self, *places):
        return str(len([row for row in followed(self.counts()) if row[:len(places)] == places]))

    def still(self, one, other):
        if one == other:
            raise Refused(f"Still {one}")

    def tell_add(self, one, other, number):
        self.still(one, other)
        return self.change(self.start, {**self.many, (one, other): self.many.get((one, other), 0) + int(number)})

    def tell_take(self, one, other, number):
        self.still(one, other)
        lacking = int(number) - self.many.get((one, other), 0)
        if lacking > 0:
            raise Refused(f"Short {one} {other} {lacking}")
        return self.change(self.start, {**self.many, (one, other): -lacking})

    def tell_from(self, place):
        return self.change(place, self.many)

    def tell_go(self, place):
        self.still(self.start, place)
        many = self.many.get((self.start, place), 0)
        if many == 0:
            raise Refused(f"Short {self.start} {place} 1")
        return self.change(place, {**self.many, (self.start, place): many - 1})

    def tell_turn(self):
        return self.change(self.journeys()[0][-1], {(other, one): many for (one, other), many in self.many.items()})

    def tell_undo(self):
        if not self.before:
            raise Refused("NothingDone")
        self.start, self.many = self.before.pop()
        return "done"


def some_request(rng, model):
    """A request of any kind, most of them near to what the model has now."""
    word = rng.choice("why end many least counts sure meets last first share ahead journey number begins "
                      "add take from go turn undo add take go go undo number journey".split())
    places = [*model.places(), rng.choice("abcdx")]
    pair = rng.sample(sorted({*places, "y"}), 2)
    if word in ("last", "first", "from", "go"):
        return f"{word} {rng.choice(places)}"
    if word in ("share", "ahead"):
        return " ".join([word, *pair])
    if word == "journey":
        return f"journey {rng.randint(0, 4)}"
    if word in ("number", "begins"):
        known = followed(model.counts()) or [("a", "b")]
        row = rng.choice(known)
        return " ".join([word, *row[:rng.randint(1, len(row)) if word == "begins" or rng.random() < 0.2 else len(row)]])
    if word in ("add", "take"):
        pair = rng.choice([step for step in model.many] or [pair]) if rng.random() < 0.8 else rng.choices("abc", k=2)
        return " ".join([word, *pair, str(rng.choice([0, 1, 1, 2]))])
    return word


class DocumentExamples(Raising):
    def test_answers(self):
        asked = "\n\nwhy\nend\nmany\nleast\nlast a\nshare a b\nsure\njourney 2\nnumber a c a b c b d\nbegins a c"
        self.assertEqual(answers(SHEET + asked), [
            "had", "d", "3", "a > b > c > a > c > b > d", "b c", "2/3", "b d", "a > c > b > c > a > b > d", "1", "2"])

    def test_changes(self):
        asked = "\n\nahead b c\ngo c\nmany\nmeets\ngo d\nundo\nundo\ntake a b 2\nadd a a 1\nturn\nlast a\nlast x"
        self.assertEqual(answers(SHEET + asked), [
            "sometimes", "done", "2", "c", "refused Short c d 1", "done", "refused NothingDone", "refused Short a b 1",
            "refused Still a", "done", "c", "refused NoPlace x"])

    def test_desk(self):
        desk = Desk(Counts("a"))
        asked = ["add b a 1", "why", "least", "sure", "from b", "counts"]
        self.assertEqual([desk.answer(request) for request in asked],
                         ["done", "surplus b", "-", "refused NoJourney", "done", "from b; b a 1"])
        self.assertEqual(len(desk), 2)

    def test_errors(self):
        self.check_raises(BadText, {}, lambda: Desk(Counts("a")).answer("go"))
        self.check_raises(BadLine, {"number": 7}, lambda: answers(SHEET))


class AgainstWhatIsKept(unittest.TestCase):
    def test_requests(self):
        met = set()
        for seed in range(120):
            rng = random.Random(seed)
            counts = Counts.of(walked(rng, "abcd"[:rng.randint(2, 4)], rng.randint(0, 7)))
            desk, model = Desk(counts), Model(counts.start, counts.steps)
            for _ in range(40):
                request = some_request(rng, model)
                told = desk.answer(request)
                self.assertEqual(told, model.answer(request), (model.tell_counts(), request))
                self.assertEqual((desk.counts, len(desk)), (model.counts(), len(model.before)))
                met.add(" ".join(told.split(" ")[:2]) if told.startswith("refused") else request.split(" ")[0])
                if model.counts().total > 8:
                    self.assertEqual((desk.answer("undo"), model.answer("undo")), ("done", "done"))
            while model.before:
                self.assertEqual((desk.answer("undo"), model.answer("undo")), ("done", "done"))
            self.assertEqual((desk.counts, desk.answer("undo")), (counts, "refused NothingDone"))
        # Each word was answered otherwise than by a refusal, and each refusal was met.
        refusals = "NoJourney NoPlace NoNumber Unlike Still Short NothingDone".split()
        words = "why end many least counts sure meets last first share ahead journey number begins add take from go " \
                "turn undo".split()
        self.assertEqual(met, {*words, *[f"refused {name}" for name in refusals]})

    def test_answers_are_those_of_one_desk(self):
        for seed in range(30):
            rng = random.Random(seed)
            counts = Counts.of(walked(rng, "abc", 6))
            model, requests, told = Model(counts.start, counts.steps), [], []
            for _ in range(20):
                request = some_request(rng, model)
                if model.counts().total < 8 or not request.startswith("add"):
                    requests.append(request)
                    told.append(model.answer(request))
            self.assertEqual(answers("\n".join([counts.text, "", *requests])), told)


class Edges(Raising):
    def test_counts_that_no_journey_has(self):
        for counts in NOT_HAD:
            desk = Desk(counts)
            self.assertEqual(desk.answer("why"), " ".join(why_none(counts)))
            self.assertEqual([desk.answer(word) for word in ["many", "least", "begins a", "begins a b"]],
                             ["0", "-", "0", "0"])
            for request in ["end", "sure", "meets", "last a", "last zz", "first zz", "share x y", "ahead x y", "turn",
                            "journey 0", "number a"]:
                self.assertEqual(desk.answer(request), "refused NoJourney")
            self.assertEqual((desk.counts, len(desk)), (counts, 0))

    def test_changes_that_leave_the_counts_the_same(self):
        desk = Desk(Counts("a"))
        for request in ["add a b 0", "take x y 0", "from a", "turn"]:
            self.assertEqual(desk.answer(request), "done")
            self.assertEqual(desk.counts, Counts("a"))
        self.assertEqual(len(desk), 4)
        self.assertEqual([desk.answer("undo") for _ in range(5)], ["done"] * 4 + ["refused NothingDone"])

    def test_order_of_refusals(self):
        desk = Desk(Counts("a", (("a", "b", 1),)))
        asked = ["add c c 0", "take c c 9", "take b a 0", "take a b 3", "go a", "go b", "go b", "share x y", "ahead b y",
                 "from b", "share a b", "journey 0", "journey 7"]
        self.assertEqual([desk.answer(request) for request in asked], [
            "refused Still c", "refused Still c", "done", "refused Short a b 2", "refused Still a", "done",
            "refused Still b", "refused NoPlace x", "refused NoPlace y", "done",
            "refused NoPlace a", "b", "refused NoNumber 7"])

    def test_begins(self):
        desk = Desk(Counts.of(("a", "b", "a", "c", "a")))
        self.assertEqual([desk.answer(f"begins {row}") for row in ["a", "a b", "b", "a b a c a", "a b a c a b", "x"]],
                         ["2", "1", "0", "1", "0", "0"])

    def test_what_is_no_request(self):
        desk = Desk(Counts.of(("a", "b")))
        bad = ["", " ", "why ", " why", "Why", "whys", "why a", "why  ", "end 1", "undo 1", "turn a", "last", "last ",
               "last A", "last a b", "last  a", "first a1", "from", "from 1", "go a b", "go ninelette", "share a",
               "share a a", "share a b c", "share a B", "ahead b b", "ahead a", "journey", "journey -1", "journey 01",
               "journey a", "journey 1 2", "journey 1.", "journey \u0661", "journey +1", "number", "number a a",
               "number a  b", "number a b b", "number a ?", "begins", "begins ", "begins a a", "add a b", "add a b -1",
               "add a b 00", "add a b 1 1", "add a 1 b", "add a B 1", "add A A 1", "add A b 1", "take B a 1", "take a b c", "take a b", "take",
               "add a b 1\n", "why\nwhy", "many\n", "sums", "x", "0", "answer", "undo undo", "go\ta", "last \u00e9"]
        for request in bad:
            self.check_raises(BadText, {}, lambda: desk.answer(request))
            self.assertEqual((desk.counts, len(desk)), (Counts.of(("a", "b")), 0))
            if "\n" not in request:
                self.check_raises(BadLine, {"number": 3}, lambda: answers(f"from a\n\nwhy\n{request}\nmany"))
                self.check_raises(BadLine, {"number": 2}, lambda: answers(f"from a\n\n{request}\n{request}"))

    def test_requests_of_the_right_form(self):
        rng = random.Random(201)
        desk, good = Desk(Counts.of(("a", "b", "a", "b"))), 0
        words = ["why", "end", "last", "go", "from", "share", "ahead", "journey", "number", "begins", "add", "take",
                 "a", "b", "c", "x", "a", "b", "A", "0", "1", "01", "", "undo", "turn"]
        for _ in range(4000):
            row = rng.choices(words, k=rng.randint(1, 4))
            request = " ".join(row)
            formed = any(re.fullmatch(form, request) for form in FORMS)
            if row[0] in ("share", "ahead", "number", "begins"):
                formed = formed and all(one != other for one, other in zip(row[1:], row[2:]))
            good += formed
            if formed:
                self.assertIsInstance(desk.answer(request), str)
            else:
                self.check_raises(BadText, {}, lambda: desk.answer(request))
        self.assertGreater(good, 100)

    def test_no_setter(self):
        desk = Desk(Counts("a"))
        with self.assertRaises(AttributeError):
            desk.counts = Counts("b")


class Sheets(Raising):
    def test_no_requests(self):
        self.assertEqual((answers("from a\n"), answers(SHEET + "\n")), ([], []))

    def test_lines_ahead_of_the_one_that_parts(self):
        for text, number in [("", 0), ("\n", 0), ("\nwhy", 0), ("\nfrom a\n\nwhy", 0), ("why\n\nwhy", 0), ("why", 0),
                             ("from a", 1), ("from a\na b 1", 2), ("from a\nwhy", 1), ("from a\na b 1\na b 1\n\nwhy", 2),
                             ("from a\na b 0\n", 1), ("from a b\n\nwhy", 0), ("from a\na b 1\nb\n\nx", 2), (" \n\nwhy", 0),
                             ("from a\n \n\nwhy", 1), ("from a\nb b 1", 1)]:
            self.check_raises(BadLine, {"number": number}, lambda: answers(text))

    def test_lines_behind_it(self):
        for text, number in [("from a\n\n", 2), ("from a\n\n\nwhy", 2), ("from a\n\nwhy\n", 3), ("from a\n\nwhy\n\nwhy", 3),
                             ("from a\n\nundo\nundo\nfrom a b", 4), ("from a\na b 1\n\nfrom b\na b 1", 4)]:
            self.check_raises(BadLine, {"number": number}, lambda: answers(text))
        self.assertEqual(answers("from a\n\nundo\nfrom b\ncounts"), ["refused NothingDone", "done", "from b"])

    def test_lines_in_any_order(self):
        self.assertEqual(answers("from b\nb a 1\na b 2\n\ncounts\nwhy"), ["from b; a b 2; b a 1", "surplus a"])
        self.assertEqual(answers("from b\nz y 1\n\nwhy"), ["surplus z"])


class HowArgumentsCome(unittest.TestCase):
    def test_by_name(self):
        desk = Desk(counts=Counts("a"))
        self.assertEqual((desk.answer(request="why"), answers(text="from a\n\nend")), ("had", ["a"]))

    def test_nothing_is_shared(self):
        counts = Counts.of(("a", "b", "a"))
        desk, other = Desk(counts), Desk(counts)
        desk.answer("go b")
        self.assertEqual((counts, other.counts, len(other)), (Counts.of(("a", "b", "a")), counts, 0))
        before = desk.counts
        desk.answer("add a b 3")
        self.assertEqual(before, Counts("b", (("b", "a", 1),)))
        told = answers("from a\n\nwhy")
        told.clear()
        self.assertEqual(answers("from a\n\nwhy"), ["had"])


class AtTheBounds(unittest.TestCase):
    def test_sixty_lines(self):
        counts = Counts("a", [(*pair, 2) for pair in itertools.permutations("abcdef", 2)])
        journeys = Journeys(counts)
        number = journeys.many // 3
        row = journeys[number]
        asked = [f"journey {number}", "number " + " ".join(row), "begins " + " ".join(row[:40])] * 8 + ["many", "least"]
        text = "\n".join([counts.text, "", *asked])
        self.assertLessEqual(len(text.split("\n")), 60)
        told = answers(text)
        self.assertEqual(told[:2] + told[-2:-1], [journey_text(row), str(number), str(journeys.many)])

    def test_great_numbers(self):
        sheet = f"from a\na b {GREAT}\nb a {GREAT - 1}\nb c 1\nc d 1\n\n"
        asked = "why\nend\nlast b\nfirst b\nlast d\nahead c d\nsure\ngo b\nundo\nturn\nsure\nadd d c 3\nwhy"
        self.assertEqual(answers(sheet + asked), [
            "had", "d", "c", "a", "-", "always", "a b, b c, c d", "done", "done", "done", "a b, b a, c b, d c",
            "done", "surplus c"])
        self.assertEqual(answers(f"from a\n\nadd a b {GREAT}\ntake a b {GREAT - 1}\ntake a b 2\ncounts"),
                         ["done", "done", "refused Short a b 1", "from a; a b 1"])


if __name__ == "__main__":
    unittest.main()
