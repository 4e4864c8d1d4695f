"""Texts: how spendings, rules and books of rules are written, and what a text writes.

A text is read by taking its words for whatever they may be, and writing that anew: only where the
same text comes back was it so written. So the order of the words, and which are left out, is told
by the functions that write alone.
"""

from roadpence.books import Rulebook
from roadpence.errors import NoBook, NoHeads, NoRule, NoSpending, NoText
from roadpence.rules import Rule
from roadpence.spendings import Spending
from roadpence.things import LAST_DAY

FIGURES = "0123456789"
MOST_FIGURES = 30
NO_RULES = "-"


def number_of(word):
    """Tell the number that a word writes, or None."""
    if not 1 <= len(word) <= MOST_FIGURES or not all([sign in FIGURES for sign in word]):
        return None
    if word[0] == "0" and word != "0":
        return None
    return int(word)


def paper_word(paper):
    """Tell how it is written whether there is a paper."""
    return "papered" if paper else "bare"


def spending_text(spending):
    """Tell how a spending is written."""
    words = [spending.kind, f"{spending.amount}"]
    if spending.day != 0:
        words.append(f"day={spending.day}")
    if not spending.paper:
        words.append(paper_word(spending.paper))
    if spending.heads != 1:
        words.append(f"heads={spending.heads}")
    if spending.money != 0:
        words.append(f"money={spending.money}")
    return " ".join(words)


def rule_text(rule):
    """Tell how a rule is written."""
    words = [rule.name, rule.deed]
    if rule.bound != 0:
        words.append(f"bound={rule.bound}")
    if rule.kind is not None:
        words.append(f"kind={rule.kind}")
    if rule.town is not None:
        words.append(f"town={rule.town}")
    if rule.first != 0:
        words.append(f"first={rule.first}")
    if rule.last != LAST_DAY:
        words.append(f"last={rule.last}")
    if rule.over != 0:
        words.append(f"over={rule.over}")
    if rule.paper is not None:
        words.append(paper_word(rule.paper))
    return " ".join(words)


def book_text(book):
    """Tell how a book of rules is written."""
    rows = [rule_text(rule) for rule in book.rules()]
    return "\n".join(rows) if len(rows) > 0 else NO_RULES


def words_of(text):
    """Tell the words of a text of a spending or a rule; there are two at the least."""
    if not isinstance(text, str):
        raise NoText(0)
    words = text.split(" ")
    if len(words) < 2:
        raise NoText(0)
    return words


def parts_of(words):
    """Tell by their names the parts that words such as day=3 and bare write."""
    parts = {}
    for word in words:
        name, sign, worth = word.partition("=")
        if word == "papered" or word == "bare":
            parts["paper"] = word == "papered"
        elif name == "kind":
            parts["kind"] = worth
        else:
            parts[name] = number_of(worth)
    return parts


def spending_of(words):
    """Tell the spending that words may write."""
    parts = parts_of(words[2:])
    return Spending(
        words[0],
        number_of(words[1]),
        parts.get("day", 0),
        parts.get("paper", True),
        parts.get("heads", 1),
        parts.get("money", 0),
    )


def rule_of(words):
    """Tell the rule that words may write."""
    parts = parts_of(words[2:])
    return Rule(
        words[0],
        words[1],
        parts.get("bound", 0),
        parts.get("kind", None),
        parts.get("town", None),
        parts.get("first", 0),
        parts.get("last", LAST_DAY),
        parts.get("over", 0),
        parts.get("paper", None),
    )


def read_spending(text):
    """Tell the spending that a text writes."""
    words = words_of(text)
    try:
        spending = spending_of(words)
    except (NoSpending, NoHeads):
        raise NoText(0) from None
    if spending_text(spending) != text:
        raise NoText(0)
    return spending


def read_rule(text):
    """Tell the rule that a text writes."""
    words = words_of(text)
    try:
        rule = rule_of(words)
    except NoRule:
        raise NoText(0) from None
    if rule_text(rule) != text:
        raise NoText(0)
    return rule


def read_book(text):
    """Tell the book of rules that a text writes."""
    if not isinstance(text, str):
        raise NoText(0)
    book = Rulebook()
    if text == NO_RULES:
        return book
    for row, line in enumerate(text.split("\n"), start=1):
        try:
            book = book.with_rule(read_rule(line))
        except (NoText, NoBook):
            raise NoText(row) from None
    return book
