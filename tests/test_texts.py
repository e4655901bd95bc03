"""Points 2, 3 and 19: texts."""

import itertools
import random
import re
import unittest

from countedsteps.counts import Counts
from countedsteps.errors import BadLine, BadText
from countedsteps.texts import counts_of, journey_of, journey_text, steps_text, windows_of, windows_text
from countedsteps.windows import Windows
from helping import GREAT, Raising, any_counts, short_journeys, walked

PLACE, NUMBER = "[a-z]{1,8}", "[1-9][0-9]*"
BAD_PLACES = ["", " ", "A", "aB", "a1", "ninelette", "a-b", "?", "-", "\u00e9", "\u0430", "a\t", "\n"]
BAD_NUMBERS = ["", "0", "00", "01", "-1", "+1", "1.0", "1e3", "1_0", "x", " 1", "\u00b2", "\u0661", "1\n", "\uff11"]


def read_by_hand(text, size=None):
    """The places of the first line and the pairs of the others; the number of the first bad line. By other means."""
    lines = text.split("\n")
    if not re.fullmatch(f"from( {PLACE})+", lines[0]):
        return 0
    head = lines[0].split(" ")[1:]
    if any(one == other for one, other in zip(head, head[1:])) or (size and len(head) != size - 1):
        return 0
    pairs = []
    for at, line in enumerate(lines[1:], start=1):
        if not re.fullmatch(f"({PLACE} ){{{len(head) + 1}}}{NUMBER}", line):
            return at
        *window, number = line.split(" ")
        if any(one == other for one, other in zip(window, window[1:])) or window in [row for row, _ in pairs]:
            return at
        pairs.append((window, int(number)))
    return head, pairs


def spoiled(rng, text):
    """The text with some signs or lines left out, put in, or changed for others."""
    for _ in range(rng.randint(0, 2)):
        at = rng.randint(0, len(text))
        text = text[:at] + rng.choice(["", " ", "\n", "a", "b", "0", "1", "from", "A", ","]) + text[at + rng.randint(0, 1):]
    lines = text.split("\n")
    rng.shuffle(tail := lines[1:])
    return "\n".join([lines[0], *tail, *rng.sample(tail, min(len(tail), rng.choice([0, 0, 0, 1])))])


class DocumentExamples(Raising):
    def test_examples(self):
        self.assertEqual((journey_text(("a", "b", "a")), journey_of("home > sea")), ("a > b > a", ("home", "sea")))
        self.assertEqual((steps_text((("a", "b"), ("b", "d"))), steps_text(())), ("a b, b d", "-"))
        self.assertEqual(counts_of("from a\nb a 1\na b 2").text, "from a\na b 2\nb a 1")
        self.assertEqual(windows_of("from a b\na b a 10").pairs, ((("a", "b", "a"), 10),))

    def test_errors(self):
        self.check_raises(BadText, {}, lambda: journey_of("a > b > b"))
        self.check_raises(BadLine, {"number": 2}, lambda: counts_of("from a\na b 1\nb b 1"))
        self.check_raises(BadLine, {"number": 1}, lambda: windows_of("from a b\na b 1"))


class WrittenAndRead(unittest.TestCase):
    def test_journeys(self):
        for journey in short_journeys(["a", "bc", "abcdefgh"], 4):
            self.assertEqual(journey_text(journey), " > ".join(journey))
            self.assertEqual(journey_of(journey_text(journey)), journey)

    def test_counts(self):
        for counts in any_counts(191):
            self.assertEqual(counts_of(counts.text), counts)
            lines = counts.text.split("\n")
            self.assertEqual(counts_of("\n".join([lines[0], *reversed(lines[1:])])), counts)

    def test_windows(self):
        rng = random.Random(192)
        for _ in range(100):
            journey = walked(rng, ["a", "b", "from", "ab"], rng.randint(0, 9))
            windows = Windows.of(journey, rng.randint(2, len(journey) + 1))
            text = windows_text(windows)
            rows = ["from " + " ".join(windows.head)]
            rows += [" ".join(window) + f" {number}" for window, number in windows.pairs]
            self.assertEqual(text, "\n".join(rows))
            read = windows_of(text)
            self.assertEqual((read, read.size), (windows, windows.size))
            if windows.size == 2:
                self.assertEqual(text, windows.as_counts().text)

    def test_steps(self):
        steps = [("a", "b"), ("b", "a"), ("a", "b"), ("abcdefgh", "z")]
        for length in range(1, 5):
            for row in itertools.permutations(steps, length):
                self.assertEqual(steps_text(row), ", ".join(" ".join(step) for step in row))


class AgainstReadingByHand(Raising):
    def test_counts(self):
        rng, bad = random.Random(193), 0
        for counts in any_counts(194, many=1500):
            text = spoiled(rng, counts.text)
            read = read_by_hand(text, size=2)
            if isinstance(read, int):
                bad += 1
                self.check_raises(BadLine, {"number": read}, lambda: counts_of(text))
            else:
                head, pairs = read
                self.assertEqual(counts_of(text), Counts(head[0], [(*row, number) for row, number in pairs]))
        self.assertTrue(500 < bad < 1400)

    def test_windows(self):
        rng, bad = random.Random(195), 0
        for _ in range(1500):
            journey = walked(rng, "abc", rng.randint(0, 6))
            text = spoiled(rng, windows_text(Windows.of(journey, rng.randint(2, min(4, len(journey) + 1)))))
            read = read_by_hand(text)
            if isinstance(read, int):
                bad += 1
                self.check_raises(BadLine, {"number": read}, lambda: windows_of(text))
            else:
                head, pairs = read
                self.assertEqual(windows_of(text), Windows(len(head) + 1, head, pairs))
        self.assertTrue(500 < bad < 1400)


class Edges(Raising):
    def test_texts_that_are_no_journeys(self):
        for text in ["", " ", ">", " > ", "a >", "> a", "a > ", " > a", "a>b", "a >b", "a  > b", "a >  b", " a", "a ",
                     "a b", "a > b\n", "a > > b", "a > b > ", "a > a", "a\n> b", "a, b", "a >> b"]:
            self.check_raises(BadText, {}, lambda: journey_of(text))
        for place in BAD_PLACES:
            for text in [place, f"{place} > b", f"b > {place}", f"b > {place} > b"]:
                self.check_raises(BadText, {}, lambda: journey_of(text))
        self.assertEqual(journey_of("a"), ("a",))

    def test_first_lines(self):
        for line in ["", " ", "from", "from ", "from  a", " from a", "from a ", "From a", "fro a", "a", "a b 1", "froma",
                     "from,a", "from a\r"]:
            for rest in ["", "\na b 1", "\nx"]:
                for read in [counts_of, windows_of]:
                    self.check_raises(BadLine, {"number": 0}, lambda: read(line + rest))
        for place in BAD_PLACES:
            for read in [counts_of, windows_of]:
                self.check_raises(BadLine, {"number": 0}, lambda: read(f"from {place}"))
        self.check_raises(BadLine, {"number": 0}, lambda: counts_of("from a b"))
        self.check_raises(BadLine, {"number": 0}, lambda: windows_of("from a a\na b a 1"))
        self.assertEqual((counts_of("from a"), windows_of("from a")), (Counts("a"), Windows(2, ("a",))))
        self.assertEqual(windows_of("from a b a"), Windows(4, ("a", "b", "a")))

    def test_the_word_from_is_a_place_too(self):
        self.assertEqual(counts_of("from from\nfrom a 1"), Counts("from", (("from", "a", 1),)))
        self.assertEqual(windows_of("from from a\nfrom a from 2").pairs, ((("from", "a", "from"), 2),))

    def test_wrong_lines(self):
        bad = ["", " ", "a b", "a b 1 ", " a b 1", "a  b 1", "a b  1", "a,b,1", "b 1", "a b c 1", "a a 1", "1 a b",
               "a b 1 1", "from a", "a b 1\r"]
        bad += [f"a b {number}" for number in BAD_NUMBERS] + [f"a {place} 1" for place in BAD_PLACES]
        for line in [line for line in bad if "\n" not in line]:
            for read in [counts_of, windows_of]:
                self.check_raises(BadLine, {"number": 1}, lambda: read(f"from a\n{line}"))
                self.check_raises(BadLine, {"number": 2}, lambda: read(f"from a\na x 1\n{line}\na x 1"))

    def test_lines_that_say_the_same_step(self):
        for read in [counts_of, windows_of]:
            self.check_raises(BadLine, {"number": 3}, lambda: read("from a\na b 1\nb a 1\na b 2\nb a 1"))
        self.check_raises(BadLine, {"number": 2}, lambda: windows_of("from a b\nb a b 1\nb a b 1"))

    def test_great_numbers(self):
        self.assertEqual(counts_of(f"from a\na b {GREAT}")["a", "b"], GREAT)
        self.assertEqual(windows_text(Windows(2, ("a",), ((("a", "b"), GREAT),))), f"from a\na b {GREAT}")


class HowArgumentsCome(unittest.TestCase):
    def test_lists_for_tuples(self):
        journey, steps = ["a", "b"], [["a", "b"], ["b", "c"]]
        self.assertEqual((journey_text(journey), steps_text(steps), steps_text([])), ("a > b", "a b, b c", "-"))
        self.assertEqual((journey, steps), (["a", "b"], [["a", "b"], ["b", "c"]]))

    def test_by_name(self):
        self.assertEqual((journey_text(journey=("a",)), journey_of(text="a"), counts_of(text="from a").text),
                         ("a", ("a",), "from a"))
        self.assertEqual((windows_text(windows=Windows(2, "a")), windows_of(text="from a").head, steps_text(steps=())),
                         ("from a", ("a",), "-"))


class AtTheBounds(unittest.TestCase):
    def test_sixty_lines(self):
        names = ["".join(pair) * 4 for pair in itertools.product("ab", "cdef")]
        counts = Counts(names[0], [(*pair, GREAT) for pair in itertools.permutations(names, 2)])
        self.assertEqual(counts_of(counts.text), counts)
        journey = walked(random.Random(196), "abcdefgh", 60)
        for size in (2, 20, 61, 62):
            windows = Windows.of(journey, size)
            self.assertEqual(windows_of(windows_text(windows)), windows)
        self.assertEqual(journey_of(journey_text(journey)), journey)


if __name__ == "__main__":
    unittest.main()
