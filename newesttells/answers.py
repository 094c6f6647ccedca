"""The lines that a bench answers."""

from newesttells.errors import NoMoment, NothingLeft, UnknownName
from newesttells.words import digits_of

UNKNOWN = "unknown"
LONGEST_NUMBER = 9


def is_number_word(word):
    """Whether a word has 1 to 9 digits, without a leading zero unless it is 0."""
    if not 1 <= len(word) <= LONGEST_NUMBER or not all(["0" <= sign <= "9" for sign in word]):
        return False
    return word == "0" or word[0] != "0"


def say_standing(bench, words):
    """The standing of a stream."""
    return bench.stream_at(words[1]).standing


def say_tellers(bench, words):
    """The tellers of a stream, from the newest on."""
    moments = bench.stream_at(words[1]).tellers()
    return " ".join([digits_of(moment) for moment in moments]) if len(moments) > 0 else "none"


def say_window(bench, words):
    """The standing of a window of a stream."""
    return bench.stream_at(words[1]).window(start=int(words[2]), end=int(words[3]))


def say_end(bench, words):
    """The end of a moment of a stream."""
    end = bench.stream_at(words[1]).end_of(int(words[2]))
    return "open" if end is None else digits_of(end)


def say_rows(bench, words):
    """The number of the rows of a band."""
    return digits_of(len(bench.band_at(words[1])))


def say_made(bench, words):
    """Whether a word is a row of a band."""
    return "yes" if words[2] in bench.band_at(words[1]) else "no"


def say_undo(bench, words):
    """Takes the last step back."""
    bench.undo()
    return "done"


def say_redo(bench, words):
    """Does the last step again."""
    bench.redo()
    return "done"


# Behind its first word, a line has so many words of any kind, and then so many numbers.
WORD_COUNTS = {"standing": (1, 0), "tellers": (1, 0), "window": (1, 2), "end": (1, 1), "rows": (1, 0), "made": (2, 0),
               "undo": (0, 0), "redo": (0, 0)}
ANSWERS = {"standing": say_standing, "tellers": say_tellers, "window": say_window, "end": say_end, "rows": say_rows,
           "made": say_made, "undo": say_undo, "redo": say_redo}


def is_known(line, words):
    """Whether a line of words is one of those that are answered."""
    if "\n" in line or "" in words or words[0] not in WORD_COUNTS:
        return False
    many, numbers = WORD_COUNTS[words[0]]
    return len(words) == 1 + many + numbers and all([is_number_word(word) for word in words[1 + many:]])


def answer_to(bench, line):
    """The answer of a bench to a line."""
    words = line.split(" ")
    if not is_known(line, words):
        return UNKNOWN
    action = ANSWERS[words[0]]
    try:
        return action(bench, words)
    except (UnknownName, NoMoment, NothingLeft) as error:
        return f"error {error.code}"
