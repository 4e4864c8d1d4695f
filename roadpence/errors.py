"""The refusals of the program, one class for each kind."""


class PenceError(ValueError):
    """What most refusals stand under."""


class NoRates(PenceError):
    """What was handed in are no rates."""


class NoSpot(PenceError):
    """What was handed in is no spot."""


class NoShare(PenceError):
    """What was handed in is no share, or no such sum."""


class NoBook(PenceError):
    """What was handed in makes no book of rules."""


class NoPlace(PenceError):
    """There is no such place in a book."""


class Absent(PenceError):
    """The spending is not in the journey."""


class Nothing(PenceError):
    """There is no deed left to undo."""


class NoTable(PenceError):
    """What was handed in is no table."""


class NoLine(PenceError):
    """What was handed in is no line of a desk."""


class NoSpending(PenceError):
    """No spending is made of this: part names what is none."""

    def __init__(self, part):
        PenceError.__init__(self, f"no spending has such a part: {part}")
        self.part = part


class NoRule(PenceError):
    """No rule is made of this: part names what is none."""

    def __init__(self, part):
        PenceError.__init__(self, f"no rule has such a part: {part}")
        self.part = part


class NoJourney(PenceError):
    """No journey is made of this: part names what is none."""

    def __init__(self, part):
        PenceError.__init__(self, f"no journey has such a part: {part}")
        self.part = part


class NoText(PenceError):
    """The text writes nothing: row tells the line of a book, or 0."""

    def __init__(self, row):
        PenceError.__init__(self, f"nothing is written so: row {row}")
        self.row = row


class TooMany(PenceError):
    """There would be many, where most is the bound."""

    def __init__(self, many, most):
        PenceError.__init__(self, f"{many} are too many: at most {most}")
        self.many = many
        self.most = most


class NoRate(LookupError):
    """The money has no rate on the day."""

    def __init__(self, money, day):
        LookupError.__init__(self, f"money {money} has no rate on day {day}")
        self.money = money
        self.day = day


class NoDay(IndexError):
    """The journey hasn't the day."""

    def __init__(self, day):
        # The day may be a thing of whatever kind, too deep to be written into a text.
        IndexError.__init__(self, "the journey hasn't this day")
        self.day = day


class NoName(KeyError):
    """The book has no rule of the name."""

    def __init__(self, name):
        # The name may be a thing of whatever kind, too deep to be written into a text.
        KeyError.__init__(self, "the book has no rule of this name")
        self.name = name


class NoHeads(ZeroDivisionError):
    """Nobody shared the spending."""

    def __init__(self, heads):
        ZeroDivisionError.__init__(self, f"a spending is shared by one at the least, not by {heads}")
        self.heads = heads
