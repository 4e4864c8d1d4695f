"""The forms of a desk's lines: which words there are, and what stands behind each."""

from roadpence.errors import NoLine
from roadpence.texts import number_of
from roadpence.things import is_kind

# Behind these stands nothing.
ALONE = ("undo", "owed", "lines", "twins", "rules")
# Behind these stands a blank, and any text behind that.
AHEAD_OF_TEXT = ("add", "strike", "rule", "apart")


def number_in(word):
    """Tell the number that a word of a line writes."""
    number = number_of(word)
    if number is None:
        raise NoLine("a number is written in at most thirty figures, without a nought ahead")
    return number


def told_behind(word, words):
    """Tell what is told behind the first word of a line, by the words that stand there."""
    if word in ALONE and len(words) == 0:
        return []
    if word == "drop" and len(words) == 1 and words[0] != "":
        return words
    if word == "had" and len(words) == 1:
        return [number_in(words[0])]
    if word == "towns" and len(words) > 0:
        return [tuple([number_in(town) for town in words])]
    if word == "room" and len(words) == 2 and is_kind(words[0]):
        return [words[0], number_in(words[1])]
    raise NoLine("no line of a desk has this form")


def read_line(line):
    """Tell the first word of a line, and the list of what is told behind it."""
    if not isinstance(line, str):
        raise NoLine("a line is a text")
    word, blank, rest = line.partition(" ")
    if word in AHEAD_OF_TEXT and blank == " ":
        return word, [rest]
    return word, told_behind(word, line.split(" ")[1:])
