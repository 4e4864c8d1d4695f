"""What DOC.md says of moneys, rules, books, trees and journeys, told anew by going through all one by one.

Nothing of the program is used here but the values of spendings and rules, so that both can be held against each
other.
"""

from fractions import Fraction
from math import floor

KINDS = ("bed", "fee", "meal", "ride", "sundry")
TOWNS = (0, 1, 2, 3)
PAPERS = (False, True)
DAYS = tuple(range(60))
MOST = 10 ** 12
DEEDS = {"let": 0, "cut": MOST, "each": 1000, "hundredths": 100, "refuse": 0}


def rate(rates, money, day):
    """Point 20: the rate, or None."""
    if money == 0:
        return (1, 1)
    rows = [row for row in rates if row[0] == money and row[1] <= day]
    return max(rows)[2:] if rows else None


def share(spending, rates):
    """Point 21."""
    top, bottom = rate(rates, spending.money, spending.day)
    return floor(Fraction(spending.amount * top, bottom * spending.heads) + Fraction(1, 2))


def pays(rule, share):
    """Point 30."""
    if rule.deed == "let":
        return share
    if rule.deed == "cut":
        return share if share < rule.bound else rule.bound
    if rule.deed == "each":
        return rule.bound * share
    if rule.deed == "hundredths":
        return (rule.bound * share - rule.bound * share % 100) // 100
    return 0


def meets(rule, spot):
    """Point 32."""
    kind, town, paper, day, share = spot
    if rule.kind not in (None, kind) or rule.town not in (None, town):
        return False
    if rule.paper is not None and rule.paper is not paper:
        return False
    return day in range(rule.first, rule.last + 1) and share > rule.over


def place_met(rules, spot):
    """Point 42: the place of the rule that meets a spot, or None."""
    for at, rule in enumerate(rules):
        if meets(rule, spot):
            return at
    return None


def paid(rules, spot):
    at = place_met(rules, spot)
    return 0 if at is None else pays(rules[at], spot[4])


def room(rules, kind, town, day, paper, most):
    """Point 43."""
    for share in range(most, 0, -1):
        if paid(rules, (kind, town, paper, day, share)) == share:
            return share
    return None


def columns(days=DAYS):
    """Tell all spots without their shares, rising."""
    return [(kind, town, paper, day) for kind in KINDS for town in TOWNS for paper in PAPERS for day in days]


def first_apart(ones, others, shares, days=DAYS):
    """Point 50, of some shares and days only."""
    shares = sorted(set(shares))
    for column in columns(days):
        # What meets no share of the column, not even the greatest one, is left out, as the shares are many.
        here = [rule for rule in ones if meets(rule, (*column, MOST))]
        there = [rule for rule in others if meets(rule, (*column, MOST))]
        for share in shares:
            if paid(here, (*column, share)) != paid(there, (*column, share)):
                return (*column, share)
    return None


def telling_shares(rules):
    """Tell shares that are enough to find the first one at which any two of these rules pay unlike amounts."""
    shares = {MOST, *range(103)}
    bounds = {rule.bound for rule in rules if rule.deed == "cut"}
    for rule in rules:
        shares.update(range(rule.over - 1, rule.over + 103))
    for bound in bounds:
        shares.update((bound - 1, bound, bound + 1, bound + 2))
        for hundredths in range(1, 100):
            near = 100 * (bound + 1) // hundredths
            shares.update((near - 1, near, near + 1))
    return sorted(share for share in shares if 0 <= share <= MOST)


def whole(thing, least, most):
    return type(thing) is int and least <= thing <= most


def has_form(thing, ones, others):
    """Point 51: whether a thing is a tree whose leaves tell places or None."""
    if type(thing) is not tuple or len(thing) < 3 or type(thing[0]) is not str:
        return False
    word, parts = thing[0], thing[1:]
    if word == "met":
        many = (len(ones), len(others))
        return len(parts) == 2 and all(part is None or whole(part, 0, top - 1) for part, top in zip(parts, many))
    if word == "paper":
        return len(parts) == 2 and all(has_form(part, ones, others) for part in parts)
    if len(parts) != 3:
        return False
    worth = parts[0]
    held = {
        "kind": type(worth) is str and worth in KINDS,
        "town": whole(worth, 0, 3),
        "day": whole(worth, 0, 59),
        "share": whole(worth, 0, MOST),
    }
    return held.get(word, False) and all(has_form(part, ones, others) for part in parts[1:])


def goes_ahead(tree, spot):
    """Tell whether a spot belongs to the former one of the two trees within a tree."""
    kind, town, paper, day, share = spot
    word, worth = tree[0], tree[1]
    if word == "paper":
        return paper
    if word == "day":
        return day < worth
    if word == "share":
        return share <= worth
    return worth == (kind if word == "kind" else town)


def leaf_of(tree, spot):
    """Tell the leaf that stands for a spot."""
    while tree[0] != "met":
        tree = tree[-2] if goes_ahead(tree, spot) else tree[-1]
    return tree


def is_right(tree, ones, others, spots):
    """Point 51: whether a tree is right, going through some spots only."""
    if not has_form(tree, ones, others):
        return False
    for spot in spots:
        here, there = place_met(ones, spot), place_met(others, spot)
        if leaf_of(tree, spot) != ("met", here, there) or paid(ones, spot) != paid(others, spot):
            return False
    return True


def nodes(tree):
    """Tell a tree and all trees within it."""
    told, left = [], [tree]
    while left:
        tree = left.pop()
        told.append(tree)
        if tree[0] != "met":
            left += tree[-2:]
    return told


def depth(tree):
    """Tell how deep a tree is, a leaf being one deep."""
    deepest, left = 0, [(tree, 1)]
    while left:
        tree, deep = left.pop()
        deepest = max(deepest, deep)
        if tree[0] != "met":
            left += [(tree[-2], deep + 1), (tree[-1], deep + 1)]
    return deepest


def telling_spots(rules, trees):
    """Tell spots about each end of the rules and of the trees."""
    days, shares = {0, 59}, {0, 1, 2, 3, MOST}
    for rule in rules:
        days.update((rule.first - 1, rule.first, rule.last, rule.last + 1))
        shares.update((rule.over, rule.over + 1, rule.over + 2))
        if rule.deed == "cut":
            shares.update((rule.bound, rule.bound + 1))
    for tree in trees:
        for node in nodes(tree):
            if node[0] == "day":
                days.update((node[1] - 1, node[1]))
            if node[0] == "share":
                shares.update((node[1], node[1] + 1))
    days = sorted(day for day in days if 0 <= day <= 59)
    shares = sorted(share for share in shares if 0 <= share <= MOST)
    return [(*column, share) for column in columns(days) for share in shares]


def lines(spendings):
    """Point 62: from the last thing that they rise by to the first one."""
    told = sorted(spendings, key=lambda spending: 0 if spending.paper else 1)
    for part in ("heads", "money", "amount", "kind", "day"):
        told = sorted(told, key=lambda spending: getattr(spending, part))
    return told


def twin_values(spending):
    """Point 12."""
    return (spending.kind, spending.amount, spending.day, spending.money)


def twins(spendings):
    """Point 62."""
    told = [twin_values(line) for line in lines(spendings)]
    return [at for at in range(len(told)) if told[at] in told[:at]]


def verdicts(towns, spendings, rules, rates):
    """Point 71, as tuples (line, share, paid, name)."""
    told = []
    for at, line in enumerate(lines(spendings)):
        worth = share(line, rates)
        spot = (line.kind, towns[line.day], line.paper, line.day, worth)
        place = place_met(rules, spot)
        if at in twins(spendings):
            told.append((line, worth, 0, "twin"))
        elif place is None:
            told.append((line, worth, 0, None))
        else:
            told.append((line, worth, pays(rules[place], worth), rules[place].name))
    return told


def days_pay(towns, begun, ended, table):
    """Point 72."""
    total = 0
    for day, town in enumerate(towns):
        tenths = 10
        if day == 0:
            tenths = min(tenths, begun)
        if day == len(towns) - 1:
            tenths = min(tenths, ended)
        total += floor(Fraction(table[town] * tenths, 10))
    return total
