"""Cases: whether two books of rules pay alike, whatever is spent.

All spots are parted into boxes, by the ends of the rules alone, until each box is settled: in each
book one rule, or none, is the first to meet every spot of it. What is paid there hangs on the share
alone.
"""

from roadpence.boxes import is_empty, is_question, parted, question_of, touches, whole_box
from roadpence.payments import first_unlike, payment_of
from roadpence.things import is_whole


def first_met(rules, box):
    """Tell the place of the first rule that meets any spot of a box, or None."""
    for at, rule in enumerate(rules):
        if touches(rule, box):
            return at
    return None


def question_left(rules, box):
    """Tell a question that parts a box because the first rule there doesn't meet all of it, or None."""
    at = first_met(rules, box)
    return None if at is None else question_of(rules[at], box)


def next_question(ones, others, box):
    """Tell the question that parts a box next, or None where it is settled."""
    question = question_left(ones, box)
    return question_left(others, box) if question is None else question


def settled_boxes(ones, others):
    """Part all spots into settled boxes, none of them empty."""
    settled = []
    left = [whole_box()]
    while len(left) > 0:
        box = left.pop()
        question = next_question(ones, others, box)
        if question is None:
            settled.append(box)
        else:
            left.extend(parted(box, question))
    return settled


def payment_at(rules, place):
    """Tell the payment of the rule at a place, or of none."""
    return payment_of("refuse", 0) if place is None else rules[place].payment


def unlike_share(ones, others, box):
    """Tell the least share of a settled box of which two books pay unlike amounts, or None."""
    low, high = box[4]
    here = payment_at(ones, first_met(ones, box))
    there = payment_at(others, first_met(others, box))
    return first_unlike(here, there, low, high)


def first_apart(one, other):
    """Tell the least spot at which two books part, or None."""
    ones, others = one.rules(), other.rules()
    spots = []
    for box in settled_boxes(ones, others):
        share = unlike_share(ones, others, box)
        if share is not None:
            kinds, towns, papers, days, shares = box
            spots.append((kinds[0], towns[0], papers[0], days[0], share))
    return min(spots, default=None)


def grown(ones, others, box):
    """Tell the tree of the places that meet the spots of a box."""
    # Each question parts a box in two that aren't empty: along one way there are at most 4 of kinds, 3 of towns,
    # 1 of papers, 32 of days and 16 of shares.
    question = next_question(ones, others, box)
    if question is None:
        return ("met", first_met(ones, box), first_met(others, box))
    ahead, behind = parted(box, question)
    return question + (grown(ones, others, ahead), grown(ones, others, behind))


def tree_of(one, other):
    """Tell a tree that is right for two books, or None where they part."""
    if first_apart(one, other) is not None:
        return None
    return grown(one.rules(), other.rules(), whole_box())


def is_place(thing, rules):
    """Tell whether a thing is a place of a rule, or None."""
    return thing is None or is_whole(thing, 0, len(rules) - 1)


def is_met_at(place, rules, box):
    """Tell whether each spot of a box is met by the rule at a place, or by none."""
    return first_met(rules, box) == place and question_left(rules, box) is None


def is_leaf(thing):
    """Tell whether a tuple has the form of a leaf."""
    return len(thing) == 3 and thing[0] == "met"


def is_right_leaf(ones, others, box, leaf):
    """Tell whether a leaf is right for the spots of a box."""
    here, there = leaf[1], leaf[2]
    if not is_place(here, ones) or not is_place(there, others):
        return False
    if is_empty(box):
        return True
    if not is_met_at(here, ones, box) or not is_met_at(there, others, box):
        return False
    return unlike_share(ones, others, box) is None


def is_tree(one, other, thing):
    """Tell whether a thing is a tree that is right for two books."""
    ones, others = one.rules(), other.rules()
    # Trees may be deeper than calls should be, so the ones still to be seen are kept in a list.
    left = [(thing, whole_box())]
    while len(left) > 0:
        tree, box = left.pop()
        if not isinstance(tree, tuple):
            return False
        if is_leaf(tree):
            if not is_right_leaf(ones, others, box, tree):
                return False
        elif is_question(tree[:-2]):
            ahead, behind = parted(box, tree[:-2])
            left.append((tree[-2], ahead))
            left.append((tree[-1], behind))
        else:
            return False
    return True
