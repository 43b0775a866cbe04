import unittest
from functools import lru_cache
from itertools import product

from alikeclash.chainlines import chain_line, read_chain
from alikeclash.errors import InvalidText, NotUsable
from tests.samples import (
    BASED, CHAINED, EMPTY, EMPTY_HELD, FREE, GROUNDS, KEPT, LARGE, ONE, WHOLE, all_chains, all_lots, chance_of,
    closing, random_chain, steps_from,
)


def slow_pieces(step):
    lots = [" ".join(str(column) for column in lot) for lot in step[1:-1]]
    return [step[0]] + " / ".join(lots).split() + ["yes" if step[-1] else "no"]


@lru_cache(maxsize=None)
def slow_steps(size):
    """The pieces of all steps with columns below the size, whatever the state."""
    lots = [lot for lot in all_lots(size) if lot]
    steps = [("end", word) for word in (False, True)]
    steps += [("one", lot, word) for lot in lots for word in (False, True)]
    steps += [("two", lot, other, word) for lot, other in product(lots, lots) for word in (False, True)]
    return {tuple(slow_pieces(step)): step for step in steps}


@lru_cache(maxsize=None)
def slow_begun(size):
    """All beginnings of the pieces of steps."""
    return {pieces[:many] for pieces in slow_steps(size) for many in range(len(pieces) + 1)}


def slow_reading(ground, text):
    """The chain, or the number of the piece that is wrong."""
    pieces = text.split(" ") if text else []
    state, chain, at = closing(ground, ()), [], 0
    while True:
        if state is None or len(state) == ground[0]:
            return tuple(chain) if at == len(pieces) else at
        if chain:
            if pieces[at:at + 1] != [";"]:
                return at
            at += 1
        many = 0
        while at + many < len(pieces) and tuple(pieces[at:at + many + 1]) in slow_begun(ground[0]):
            many += 1
        step = slow_steps(ground[0]).get(tuple(pieces[at:at + many]))
        if step is None:
            return at + many
        fine = dict(steps_from(ground, state))
        if step not in fine:
            return at
        chain.append(step)
        state = fine[step]
        at += many


class ChainLinesTest(unittest.TestCase):

    def field(self, ground, text):
        with self.assertRaises(InvalidText, msg=repr(text)) as caught:
            read_chain(ground, text)
        self.assertEqual(caught.exception.line, 0)
        return caught.exception.field

    def compare(self, ground, text):
        right = slow_reading(ground, text)
        if isinstance(right, tuple):
            self.assertEqual(read_chain(ground, text), right, repr(text))
            self.assertEqual(chain_line(ground, right), text)
        else:
            self.assertEqual(self.field(ground, text), right, repr(text))

    def test_written_and_read(self):
        chance = chance_of(420)
        for ground in GROUNDS + ((2, ()),):
            chains = all_chains(ground)
            for chain in chance.sample(chains, min(60, len(chains))):
                line = " ; ".join(" ".join(slow_pieces(step)) for step in chain)
                self.assertEqual(chain_line(ground, chain), line)
                self.assertEqual(read_chain(ground, line), chain)
        for _ in range(20):
            chain = random_chain(chance, LARGE)
            self.assertEqual(read_chain(LARGE, chain_line(LARGE, chain)), chain)

    def test_bent(self):
        chance = chance_of(421)
        pieces = ["", ";", "/", "yes", "no", "end", "one", "two", "0", "1", "2", "3", "00", "01", "-1", "x", "End", "three"]
        for ground in (FREE, KEPT, BASED, (2, ()), ONE, (3, (((), (1,)),))):
            chains = all_chains(ground)
            for chain in chance.sample(chains, min(25, len(chains))):
                line = chain_line(ground, chain).split(" ")
                for at in range(len(line)):
                    self.compare(ground, " ".join(line[:at]))
                    self.compare(ground, " ".join(line[:at] + line[at + 1:]))
                    for piece in pieces:
                        self.compare(ground, " ".join(line[:at] + [piece] + line[at + 1:]))
                        self.compare(ground, " ".join(line[:at] + [piece] + line[at:]))
                for piece in pieces:
                    self.assertEqual(self.field(ground, " ".join(line + [piece])), len(line))
                    self.assertEqual(self.field(ground, " ".join(line + [piece, ";"])), len(line))

    def test_any_pieces(self):
        chance = chance_of(422)
        pieces = [";", "/", "yes", "no", "end", "one", "two", "0", "1", "2"]
        for ground in (FREE, KEPT, (2, ())):
            for _ in range(400):
                self.compare(ground, " ".join(chance.choice(pieces) for _ in range(chance.randint(1, 7))))

    def test_wrong_lines(self):
        cases = {
            "": 0, " ": 0, "end": 1, "end ": 1, " end yes": 0, "end yes ": 2, "end  yes": 1, "end yes ;": 2,
            "end yes ; end yes": 2, "end Yes": 1, "end 1": 1, "end True": 1, "one yes": 1, "one 3 yes": 1,
            "one 0 3 yes": 2, "one 0 0 yes": 2, "one 1 0 yes": 2, "one 0": 2, "one 0 1 2 yes": 0, "one 0 yes": 3,
            "one 0 yes ;": 4, "one 0 yes ; ": 4, "one 0 yes; end no": 2, "one 0 yes end no": 3, "one 0 yes / end no": 3,
            "one 0 / 1 yes": 2, "two 0 1 yes": 3, "two 0 / yes": 3, "two / 1 yes": 1, "two 0 / 1 / 2 yes": 4,
            "two 1 / 0 yes": 0, "two 0 / 0 yes": 0, "two 0 1 / 0 2 no ; x": 0, "two 0 / 1 yes": 5, "two 0 / 1": 4,
            "one 0 no ; one 0 no ; end no": 4, "one 00 yes": 1, "one 0 , 1 yes": 2, "one -1 yes": 1, "no": 0, ";": 0,
            "end yes\n": 1, "one 0\n yes": 1, "two 0 1 / 2 no ; end no": 6, "one 0 no ; two 0 1 / 0 2 no ;": 11,
            "\u0661": 0, "one \u0661 no": 1, "end no x y": 2,
        }
        for text, field in cases.items():
            self.assertEqual(self.field(FREE, text), field, repr(text))
        self.assertEqual(self.field(KEPT, "one 1 yes ; end no"), 0)
        self.assertEqual(self.field(KEPT, "one 0 yes ; one 0 1 no ; end yes"), 4)
        for ground in (EMPTY, EMPTY_HELD, WHOLE):
            self.assertEqual((chain_line(ground, ()), read_chain(ground, "")), ("", ()))
            for text in ("end yes", " ", "x", ";", "one 0 yes"):
                self.assertEqual(self.field(ground, text), 0)
        self.assertEqual(self.field(ONE, "one 0 yes"), 0)

    def test_large_columns(self):
        chain = (("one", (0, 10), True), ("two", (0, 1, 2, 10), (0, 10, 11), False), ("end", True))
        line = "one 0 10 yes ; two 0 1 2 10 / 0 10 11 no ; end yes"
        self.assertEqual(chain_line((12, ()), chain), line)
        self.assertEqual(read_chain((12, ()), line), chain)

    def test_closed_lots(self):
        line = "one 0 no ; two 0 1 2 / 0 3 yes"
        self.assertEqual(self.field((4, ()), "one 0 no ; two 0 1 / 0 1 3 yes"), 4)
        self.assertEqual(chain_line((4, ()), read_chain((4, ()), line)), line)
        self.assertEqual(self.field(CHAINED, line), 0)
        for text in (None, 0, True, (), ["end yes"]):
            with self.assertRaises(NotUsable) as caught:
                read_chain(FREE, text)
            self.assertEqual(caught.exception.word, "text")

    def test_example(self):
        chain = (("two", (0,), (1,), False), ("end", True))
        self.assertEqual(chain_line(FREE, chain), "two 0 / 1 no ; end yes")
        self.assertEqual(self.field(FREE, "one 0 no ; one 1 yes ; end no"), 4)


if __name__ == "__main__":
    unittest.main()
