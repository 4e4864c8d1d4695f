"""Boxes of spots, and the questions of trees that part them.

A box is a tuple (kinds, towns, papers, days, shares) and holds each spot whose five things are in
these: rising tuples of kinds, of towns and of papers, and days and shares as tuples of the least
and the greatest one. It is empty where one of the five is. A question is what a tree begins with,
but for the two trees within it: a tuple such as ("day", 3), or ("paper",).
"""

from roadpence.things import KINDS, LAST_DAY, LAST_TOWN, MOST_SHARE, is_day, is_kind, is_share, is_town

SIDES = {"kind": 0, "town": 1, "paper": 2, "day": 3, "share": 4}


def whole_box():
    """Tell the box of all spots."""
    return (KINDS, tuple(range(LAST_TOWN + 1)), (False, True), (0, LAST_DAY), (0, MOST_SHARE))


def is_empty(box):
    """Tell whether a box holds no spot."""
    kinds, towns, papers, (first, last), (low, high) = box
    return len(kinds) == 0 or len(towns) == 0 or len(papers) == 0 or first > last or low > high


def is_question(thing):
    """Tell whether a tuple is a question."""
    if thing == ("paper",):
        return True
    if len(thing) != 2:
        return False
    word, worth = thing
    if word == "kind":
        return is_kind(worth)
    if word == "town":
        return is_town(worth)
    if word == "day":
        return is_day(worth)
    return word == "share" and is_share(worth)


def parted_values(values, worth):
    """Part values into the one that is told, where it is there, and the other ones."""
    those = [value for value in values if value == worth]
    others = [value for value in values if value != worth]
    return tuple(those), tuple(others)


def parted_stretch(stretch, upto):
    """Part what lies between two ends into what is at most upto, and the rest."""
    least, greatest = stretch
    return (least, min(greatest, upto)), (max(least, upto + 1), greatest)


def parted_side(side, question):
    """Part the side of a box that a question is about."""
    if question[0] == "paper":
        return parted_values(side, True)
    if question[0] == "day":
        return parted_stretch(side, question[1] - 1)
    if question[0] == "share":
        return parted_stretch(side, question[1])
    return parted_values(side, question[1])


def with_side(box, at, side):
    """Tell the box with another side at a place."""
    return box[:at] + (side,) + box[at + 1:]


def parted(box, question):
    """Part a box by a question into two, in the order of the two trees behind it."""
    at = SIDES[question[0]]
    ahead, behind = parted_side(box[at], question)
    return with_side(box, at, ahead), with_side(box, at, behind)


def touches(rule, box):
    """Tell whether a rule meets any spot of a box that is not empty."""
    kinds, towns, papers, (first, last), shares = box
    return (
        (rule.kind is None or rule.kind in kinds)
        and (rule.town is None or rule.town in towns)
        and (rule.paper is None or rule.paper in papers)
        and rule.first <= last
        and first <= rule.last
        and rule.over < shares[1]
    )


def question_of(rule, box):
    """Tell a question that parts a box that a rule touches, or None where the rule meets all of it."""
    kinds, towns, papers, (first, last), shares = box
    if rule.kind is not None and len(kinds) > 1:
        return ("kind", rule.kind)
    if rule.town is not None and len(towns) > 1:
        return ("town", rule.town)
    if rule.paper is not None and len(papers) > 1:
        return ("paper",)
    if first < rule.first:
        return ("day", rule.first)
    if rule.last < last:
        return ("day", rule.last + 1)
    if shares[0] <= rule.over:
        return ("share", rule.over)
    return None
