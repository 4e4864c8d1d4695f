"""Rules, books, rates and spendings drawn by chance, the same ones each time, from ends that often fall together."""

from roadpence.books import Rulebook
from roadpence.rules import Rule
from roadpence.spendings import Spending
from tests.by_hand import KINDS, MOST

NAMES = ("a", "b", "c", "d", "e", "f", "g", "h")
BOUNDS = {
    "let": (0,),
    "cut": (0, 1, 2, 3, 7, 50, 101, MOST),
    "each": (0, 1, 2, 3, 1000),
    "hundredths": (0, 1, 2, 49, 50, 51, 98, 99, 100),
    "refuse": (0,),
}
OVERS = (0, 0, 0, 1, 2, 5, 6, 40, 100, 101, 10 ** 6, MOST - 1, MOST)


def drawn_rule(chance, name, free=0.5, overs=OVERS):
    """Tell a rule; each of its parts is left out as often as free tells."""
    deed = chance.choice(tuple(BOUNDS))
    first, last = sorted((chance.choice((0, 1, 5, 6, 30, 58, 59)), chance.choice((0, 1, 5, 6, 30, 58, 59))))
    parts = {
        "kind": chance.choice(KINDS),
        "town": chance.randrange(4),
        "first": first,
        "last": last,
        "over": chance.choice(overs),
        "paper": chance.choice((False, True)),
    }
    kept = {part: worth for part, worth in parts.items() if chance.random() > free}
    return Rule(name, deed, chance.choice(BOUNDS[deed]), **kept)


def drawn_book(chance, many, free=0.5, overs=OVERS):
    return Rulebook([drawn_rule(chance, name, free, overs) for name in NAMES[:many]])


def altered(chance, book):
    """Tell a book near another one: a rule more, fewer, exchanged, drawn anew or parted in two by a day."""
    rules = book.rules()
    deed = chance.choice(("more", "fewer", "exchanged", "anew", "parted", "same"))
    at = chance.randrange(len(rules)) if rules else 0
    if deed == "more" and len(rules) < 8:
        return book.with_rule(drawn_rule(chance, "z"), chance.randrange(len(rules) + 1))
    if not rules:
        return book
    if deed == "fewer":
        return book.without(rules[at].name)
    if deed == "exchanged":
        other = chance.randrange(len(rules))
        rules[at], rules[other] = rules[other], rules[at]
    if deed == "anew":
        rules[at] = drawn_rule(chance, rules[at].name)
    if deed == "parted" and len(rules) < 8 and rules[at].first < rules[at].last:
        rules[at:at + 1] = halves(rules[at], chance.randrange(rules[at].first, rules[at].last))
    return Rulebook(rules)


def halves(rule, day):
    """Tell two rules that do what one does: until a day, and from the next one on."""
    return [but(rule, last=day), but(rule, name="z", first=day + 1)]


def but(rule, **parts):
    """Tell the rule that is alike but for some parts."""
    names = ("name", "deed", "bound", "kind", "town", "first", "last", "over", "paper")
    return Rule(**{**{name: getattr(rule, name) for name in names}, **parts})


def drawn_towns(chance, most=30):
    return tuple(chance.randrange(4) for _ in range(chance.randint(1, most)))


def drawn_rates(chance):
    """Tell rates that each money has from the day 0 on, and from later days otherwise."""
    days = [(money, day) for money in (1, 2, 3) for day in (0, *sorted(chance.sample(range(1, 60), 3)))]
    return tuple((*row, chance.randint(1, 9), chance.choice((1, 2, 3, 7))) for row in days)


def drawn_spending(chance, days, moneys=4):
    """Tell a spending on one of so many days; few amounts and kinds, so twins are often drawn."""
    return Spending(
        chance.choice(KINDS[1:4]),
        chance.choice((1, 2, 5, 49, 50, 101, 10 ** 6)),
        chance.randrange(days),
        chance.choice((True, False)),
        chance.choice((1, 1, 2, 3, 6)),
        chance.randrange(moneys),
    )


def drawn_spendings(chance, days, most=40, moneys=4):
    return [drawn_spending(chance, days, moneys) for _ in range(chance.randint(0, most))]
