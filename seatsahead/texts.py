"""How steps, pairs, sizes and runs are written, and how they are read."""

from seatsahead.errors import BadText

NOTHING = "-"
MOST_LETTERS = 8
SIGNS = {"begin": "+", "end": "-"}
DEEDS = {"+": "begin", "-": "end"}


def steps_text(steps):
    """The text of a set of names."""
    return " ".join(steps) or NOTHING


def pairs_text(pairs):
    """The text of an ascending tuple of pairs of unlike names."""
    return "; ".join([f"{one} {other}" for one, other in pairs]) or NOTHING


def sizes_text(sizes):
    """The text of a tuple of numbers from 0."""
    return " ".join([str(size) for size in sizes]) or NOTHING


def run_text(run):
    """The text of a tuple of deeds."""
    return " ".join([SIGNS[deed] + step for deed, step in run]) or NOTHING


def steps_from(text):
    """The set of names with this text."""
    return _values_from(text, " ", _name_from, True)


def pairs_from(text):
    """The ascending tuple of pairs of unlike names with this text."""
    return _values_from(text, "; ", _pair_from, True)


def sizes_from(text):
    """The tuple of numbers with this text."""
    return _values_from(text, " ", _size_from, False)


def run_from(text):
    """The tuple of deeds with this text."""
    return _values_from(text, " ", _deed_from, False)


def is_name(word):
    """Whether this string is 1 to 8 letters a to z."""
    return 1 <= len(word) <= MOST_LETTERS and all(["a" <= sign <= "z" for sign in word])


def _values_from(text, between, read_piece, rising):
    """What the pieces say; read_piece gives None for a piece that is wrong."""
    values = []
    for piece, word in enumerate(_pieces(text, between)):
        value = read_piece(word)
        if value is None or (rising and values and value <= values[-1]):
            raise BadText(piece)
        values.append(value)
    return tuple(values)


def _pieces(text, between):
    # The text without signs is no way to write nothing: it has one piece, which is wrong.
    return [] if text == NOTHING else text.split(between)


def _name_from(word):
    return word if is_name(word) else None


def _pair_from(piece):
    names = piece.split(" ")
    if len(names) != 2 or names[0] == names[1] or not all([is_name(name) for name in names]):
        return None
    return tuple(names)


def _size_from(word):
    # isdigit would let in digits of other scripts.
    if word == "" or not all(["0" <= sign <= "9" for sign in word]):
        return None
    if word[0] == "0" and word != "0":
        return None
    return int(word)


def _deed_from(word):
    if word[:1] not in DEEDS or not is_name(word[1:]):
        return None
    return DEEDS[word[0]], word[1:]
