"""Lines of sentences, written and read."""

from alikeclash.errors import InvalidText
from alikeclash.helpers import is_figures_below, need, pieces_of
from alikeclash.sentences import inside_out, is_sentence

RANKS = {"(": 0, "or": 1, "and": 2, "not": 3}


def sentence_line(size, sentence):
    """The line of the sentence."""
    need(is_sentence(size, sentence), "sentence")
    lines = []
    for part in inside_out(sentence):
        if part[0] == "same":
            lines.append(f"same {part[1]}")
        elif part[0] == "not":
            lines.append("not " + lines.pop())
        elif part[0] == "and" or part[0] == "or":
            last = lines.pop()
            first = lines.pop()
            lines.append(f"({first} {part[0]} {last})")
        else:
            lines.append(part[0])
    return lines[0]


def read_sentence(size, text):
    """The sentence with this line."""
    need(isinstance(text, str) and "\n" not in text, "text")
    pieces = sentence_pieces(text)
    read = []
    waiting = []
    at = 0
    ended = False
    while at < len(pieces):
        if ended:
            ended = read_behind(pieces[at], at, read, waiting)
        elif pieces[at] == "(" or pieces[at] == "not":
            waiting.append(pieces[at])
        else:
            at = read_plain(size, pieces, at, read)
            ended = True
        at += 1
    if not ended or "(" in waiting:
        raise InvalidText(0, len(pieces))
    join_waiting(read, waiting, RANKS["or"])
    return read[0]


def sentence_pieces(text):
    """The pieces of a sentence's line, each bracket a piece by itself."""
    pieces = []
    for piece in pieces_of(text):
        parted = piece.replace("(", " ( ").replace(")", " ) ")
        # Blanks put beside brackets part nothing; an empty piece of the line itself stays.
        pieces.extend([part for part in parted.split(" ") if part != "" or piece == ""])
    return pieces


def read_plain(size, pieces, at, read):
    """Read the sentence without inner ones that begins at a piece; return where it ends."""
    piece = pieces[at]
    if piece == "always" or piece == "never":
        read.append((piece,))
        return at
    if piece != "same":
        raise InvalidText(0, at)
    if at + 1 == len(pieces) or not is_figures_below(pieces[at + 1], size):
        raise InvalidText(0, at + 1)
    read.append(("same", int(pieces[at + 1])))
    return at + 1


def read_behind(piece, at, read, waiting):
    """Read the piece behind a sentence; return whether a sentence ends with it, too."""
    if piece == "and" or piece == "or":
        join_waiting(read, waiting, RANKS[piece])
        waiting.append(piece)
        return False
    if piece != ")" or "(" not in waiting:
        raise InvalidText(0, at)
    join_waiting(read, waiting, RANKS["or"])
    waiting.pop()
    return True


def join_waiting(read, waiting, rank):
    """Join the sentences that were read by the last waiting words of at least the rank."""
    while waiting and RANKS[waiting[-1]] >= rank:
        word = waiting.pop()
        last = read.pop()
        if word == "not":
            read.append((word, last))
        else:
            first = read.pop()
            read.append((word, first, last))
