"""Books of rules: the first rule that meets a spot pays."""

from roadpence.errors import NoBook, NoName, NoPlace
from roadpence.payments import most_in_full
from roadpence.rules import Rule
from roadpence.spots import check_share, check_spot
from roadpence.things import is_whole

MOST_RULES = 8


def are_rules(thing):
    """Tell whether a thing is a list of rules that makes a book."""
    if not isinstance(thing, list) or len(thing) > MOST_RULES:
        return False
    names = []
    for rule in thing:
        if not isinstance(rule, Rule) or rule.name in names:
            return False
        names.append(rule.name)
    return True


class Rulebook:
    """Rules in their order; it never changes."""

    def __init__(self, rules=None):
        told = [] if rules is None else rules
        if not are_rules(told):
            raise NoBook("a book is made of a list of at most eight rules, no two with one name")
        self.kept = list(told)

    def __eq__(self, other):
        return isinstance(other, Rulebook) and self.kept == other.kept

    def __len__(self):
        return len(self.kept)

    def __repr__(self):
        return f"Rulebook({self.kept!r})"

    def rule(self, name):
        """Tell the rule of a name."""
        for rule in self.kept:
            if rule.name == name:
                return rule
        raise NoName(name)

    def rules(self):
        """Tell all rules, in their order."""
        return list(self.kept)

    def with_rule(self, rule, at=None):
        """Tell the book with a rule more, ahead of the one at a place or behind all."""
        if not isinstance(rule, Rule):
            raise NoBook("what is handed in is no rule")
        place = len(self.kept) if at is None else at
        if not is_whole(place, 0, len(self.kept)):
            raise NoPlace("the book has no such place")
        return Rulebook(self.kept[:place] + [rule] + self.kept[place:])

    def without(self, name):
        """Tell the book without the rule of a name."""
        gone = self.rule(name)
        return Rulebook([rule for rule in self.kept if rule.name != gone.name])

    def paid_of(self, spot):
        """Tell what is paid of a spot, and the name of the rule that pays it, or None."""
        check_spot(spot)
        for rule in self.kept:
            if rule.meets(spot):
                return (rule.pays(spot[4]), rule.name)
        return (0, None)

    def room(self, kind, town, day, paper=True, most=1000000):
        """Tell the greatest share from 1 to most that is paid in full, or None."""
        check_share(most)
        high = most
        for rule in self.kept:
            if rule.fits(kind, town, paper, day) and rule.over < high:
                # No rule ahead meets the shares from over + 1 to high, so this one pays them.
                full = min(high, most_in_full(rule.payment))
                if full > rule.over:
                    return full
                high = rule.over
        return None
