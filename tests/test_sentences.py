import unittest
from itertools import product

from alikeclash.errors import InvalidText
from alikeclash.sentencelines import read_sentence, sentence_line
from alikeclash.sentences import alike_sentence, holds_for, is_sentence, same_sense
from tests.samples import EMPTY, FREE, GROUNDS, KEPT, ODD, WHOLE, all_lots, chance_of, open_ones

ALWAYS, NEVER = ("always",), ("never",)


def holds(sentence, lot):
    """What the sentence says of the lot, by recursion."""
    word = sentence[0]
    if word == "same":
        return sentence[1] in lot
    if word in ("always", "never"):
        return word == "always"
    if word == "not":
        return not holds(sentence[1], lot)
    inner = [holds(part, lot) for part in sentence[1:]]
    return all(inner) if word == "and" else any(inner)


def some_sentence(chance, size, deep):
    """Any sentence of the size, nested at most so deep."""
    words = ["always", "never"] + ["same"] * 2 * bool(size) + ["not", "and", "or"] * 2 * bool(deep)
    word = chance.choice(words)
    if word == "same":
        return word, chance.randrange(size)
    many = {"not": 1, "and": 2, "or": 2}.get(word, 0)
    return (word, *[some_sentence(chance, size, deep - 1) for _ in range(many)])


def some_sentences(number, many=150):
    chance = chance_of(number)
    return [(size, some_sentence(chance, size, chance.randint(0, 6))) for _ in range(many) for size in range(4)]


class Reader:
    """Reads a list of pieces by recursion; whether it is right is all that it tells of errors."""

    def __init__(self, size, pieces):
        self.size = size
        self.pieces = list(pieces) + ["end"]

    def read(self):
        sentence = self.joined("or", lambda: self.joined("and", self.single))
        if self.pieces != ["end"]:
            raise SyntaxError
        return sentence

    def joined(self, word, inner):
        sentence = inner()
        while self.pieces[0] == word:
            self.pieces.pop(0)
            sentence = (word, sentence, inner())
        return sentence

    def single(self):
        piece = self.pieces.pop(0)
        if piece == "not":
            return "not", self.single()
        if piece in ("always", "never"):
            return (piece,)
        if piece == "same" and self.pieces[0] in [str(column) for column in range(self.size)]:
            return "same", int(self.pieces.pop(0))
        if piece == "(":
            sentence = self.joined("or", lambda: self.joined("and", self.single))
            if self.pieces.pop(0) == ")":
                return sentence
        raise SyntaxError


def read_slowly(size, pieces):
    """The sentence, or the first piece that cannot stand."""
    try:
        return Reader(size, pieces).read()
    except SyntaxError:
        pass
    for field in range(len(pieces)):
        if not goes_on(size, pieces[:field + 1]):
            return field
    return len(pieces)


def goes_on(size, pieces):
    """Whether some right line begins with these pieces."""
    for more in ([], ["always"], ["0"]):
        for closing in range(pieces.count("(") + 1):
            try:
                Reader(size, list(pieces) + more + [")"] * closing).read()
                return True
            except SyntaxError:
                pass
    return pieces == ["same"] or size == 0 and pieces[-1] == "same" and goes_on(size, pieces[:-1] + ["always"])


class SentencesTest(unittest.TestCase):

    def test_is_sentence(self):
        for size, sentence in some_sentences(20):
            self.assertIs(is_sentence(size, sentence), True)
        wrong = (
            ("same", 3), ("same", True), ("same", False), ("same", -1), ("same",), ("same", 0, 0), ("same", "0"),
            ["same", 0], ["always"], ("always", ALWAYS), ("never", 0), ("not",), ("not", ALWAYS, ALWAYS),
            ("not", ["always"]), ("not", ("same", True)), ("and", ALWAYS), ("and", ALWAYS, ALWAYS, ALWAYS),
            ("or", ALWAYS, None), ("or", ("same", 3), ALWAYS), ("or", ALWAYS, ("not", ("same", 5))), "always", "same 0",
            (), None, 0, True, ("xor", ALWAYS, ALWAYS), (("always",),), (["always"],), (None,), (0, 1), ("",),
            ("and", (), ()), ("not", "always"),
        )
        for thing in wrong:
            self.assertIs(is_sentence(3, thing), False, thing)
        for thing in ODD:
            self.assertIs(is_sentence(2, thing), thing == ALWAYS, thing)
        self.assertIs(is_sentence(0, ("same", 0)), False)
        self.assertIs(is_sentence(0, ("or", ALWAYS, NEVER)), True)

    def test_holds_for(self):
        for size, sentence in some_sentences(21):
            for lot in all_lots(size):
                self.assertIs(holds_for(size, sentence, lot), holds(sentence, lot))

    def test_alike_sentence(self):
        self.assertEqual(alike_sentence(3, ()), ALWAYS)
        self.assertEqual(alike_sentence(0, ()), ALWAYS)
        self.assertEqual(alike_sentence(3, (1,)), ("same", 1))
        self.assertEqual(alike_sentence(3, (0, 1, 2)), ("and", ("and", ("same", 0), ("same", 1)), ("same", 2)))
        for lot in all_lots(4):
            for other in all_lots(4):
                self.assertIs(holds_for(4, alike_sentence(4, lot), other), set(lot) <= set(other))

    def test_same_sense(self):
        chance = chance_of(22)
        for ground in GROUNDS:
            for _ in range(60):
                one, other = [some_sentence(chance, ground[0], 3) for _ in range(2)]
                same = all(holds(one, lot) == holds(other, lot) for lot in open_ones(ground))
                self.assertIs(same_sense(ground, one, other), same)
        # Nothing is asked of lots that are not closed, nor of the whole one.
        self.assertIs(same_sense(KEPT, ("and", ("same", 1), ("same", 2)), ("same", 1)), True)
        self.assertIs(same_sense(FREE, alike_sentence(3, (0, 1, 2)), NEVER), True)
        self.assertIs(same_sense(FREE, ALWAYS, NEVER), False)
        self.assertIs(same_sense(WHOLE, ALWAYS, NEVER), True)
        self.assertIs(same_sense(EMPTY, ALWAYS, NEVER), True)


class SentenceLinesTest(unittest.TestCase):

    def refused(self, size, text):
        with self.assertRaises(InvalidText) as caught:
            read_sentence(size, text)
        return caught.exception.line, caught.exception.field

    def test_written(self):
        sentence = ("or", ("same", 0), ("and", ("not", ("not", ("same", 2))), ("or", ALWAYS, NEVER)))
        self.assertEqual(sentence_line(3, sentence), "(same 0 or (not not same 2 and (always or never)))")
        self.assertEqual(sentence_line(11, ("same", 10)), "same 10")
        self.assertEqual(sentence_line(0, NEVER), "never")
        self.assertEqual(sentence_line(1, ("not", ("and", ("same", 0), ALWAYS))), "not (same 0 and always)")

    def test_read_back(self):
        for size, sentence in some_sentences(23):
            self.assertEqual(read_sentence(size, sentence_line(size, sentence)), sentence)

    def test_binding(self):
        a, b, c = ("same", 0), ("same", 1), ("same", 2)
        reads = {
            "same 0 or same 1 or same 2": ("or", ("or", a, b), c),
            "same 0 and same 1 and same 2": ("and", ("and", a, b), c),
            "same 0 and same 1 or same 2": ("or", ("and", a, b), c),
            "same 0 or same 1 and same 2": ("or", a, ("and", b, c)),
            "not same 0 and same 1": ("and", ("not", a), b),
            "not same 0 or not not same 1": ("or", ("not", a), ("not", ("not", b))),
            "not(same 0 and same 1)": ("not", ("and", a, b)),
            "same 0 and(same 1 or same 2)": ("and", a, ("or", b, c)),
            "((same 0))": a,
            "( ( always ) )": ALWAYS,
            "(not (never))": ("not", NEVER),
            "same 0 or (same 1 or same 2)": ("or", a, ("or", b, c)),
            "(same 0)or(same 1)": ("or", a, b),
        }
        for text, sentence in reads.items():
            self.assertEqual(read_sentence(3, text), sentence, text)

    def test_wrong_lines(self):
        wrong = {
            "": 0, " ": 0, "  ": 0, " always": 0, "always ": 1, "always  or never": 1, "same": 1, "same ": 1,
            "same 3": 1, "same 00": 1, "same 01": 1, "same +1": 1, "same -1": 1, "same 1_0": 1, "same x": 1, "same (": 1,
            "same 0 1": 2, "same 0 same 1": 2, "same 0)": 2, "(same 0": 3, "()": 1, ")": 0, "( always": 2,
            "(always ": 2, "( )": 1, "( always )": None, "not": 1, "not not": 2, "not and": 1, "and": 0, "always and": 2,
            "always or or": 2, "always not": 1, "always(never)": 1, "always (": 1, "Always": 0, "always,": 0, "0": 0,
            "always or\tnever": 1, "same0": 0, "(same 0 or same 3": 5, "((always)": 4, "(always))": 3, "notalways": 0,
            "same 0or same 1": 1, "same \u0661": 1, "same \u00b2": 1, "(  always)": 1, "(always )  ": 3,
        }
        for text, field in wrong.items():
            if field is None:
                self.assertEqual(read_sentence(3, text), ALWAYS)
            else:
                self.assertEqual(self.refused(3, text), (0, field), text)

    def test_no_columns(self):
        self.assertEqual(read_sentence(0, "not always"), ("not", ALWAYS))
        self.assertEqual(self.refused(0, "same"), (0, 1))
        self.assertEqual(self.refused(0, "same 0"), (0, 1))
        self.assertEqual(self.refused(0, "always or same 0 or"), (0, 3))
        self.assertEqual(self.refused(0, "(same"), (0, 2))

    def test_all_short_lines(self):
        pieces = ("same", "0", "1", "always", "not", "and", "or", "(", ")")
        for many in range(5):
            for line in product(pieces, repeat=many):
                self.compare(1, line)

    def test_long_lines(self):
        chance = chance_of(24)
        pieces = ("same 0", "same 1", "always", "not", "and", "or", "and", "or", "(", ")", ")", "same", "")
        for _ in range(3000):
            line = " ".join(chance.choice(pieces) for _ in range(chance.randint(1, 12))).split(" ")
            self.compare(chance.randint(0, 2), line)

    def compare(self, size, line):
        found = read_slowly(size, list(line))
        text = " ".join(line)
        if isinstance(found, tuple):
            self.assertEqual(read_sentence(size, text), found)
        else:
            self.assertEqual(self.refused(size, text), (0, found), (size, text))

    def test_deep_sentences(self):
        text = "not " * 25 + "(" * 5 + "never" + ")" * 5
        sentence = read_sentence(0, text)
        self.assertEqual(sentence_line(0, sentence), "not " * 25 + "never")
        long = read_sentence(1, " or ".join(["never"] * 440))
        self.assertIs(is_sentence(1, long), True)
        self.assertIs(holds_for(1, long, (0,)), False)
        self.assertIs(same_sense((1, ()), ("not", long), ALWAYS), True)
        line = sentence_line(1, long)
        self.assertEqual(line, "(" * 439 + "never" + " or never)" * 439)
        self.assertEqual(sentence_line(1, read_sentence(1, line)), line)

    def test_example(self):
        read = read_sentence(3, "same 0 or same 1 and not(same 2)")
        self.assertEqual(read, ("or", ("same", 0), ("and", ("same", 1), ("not", ("same", 2)))))
        self.assertEqual(self.refused(3, "(same 0 or same 3"), (0, 5))


if __name__ == "__main__":
    unittest.main()
