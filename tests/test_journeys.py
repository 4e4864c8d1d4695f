import copy
import inspect
import itertools
import random
import unittest

from roadpence import journeys
from roadpence.errors import Absent, NoDay, NoJourney, NoShare, Nothing, PenceError, TooMany
from roadpence.journeys import Journey
from roadpence.spendings import Spending
from tests import by_hand
from tests.drawn import drawn_spending, drawn_spendings, drawn_towns
from tests.likeness import LikenessTest
from tests.samples import deep_list, far_numbers, no_numbers, whatever
from tests.told import TOWNS, made

MOST_SUM = 10 ** 9
PARTS = ("towns", "begun", "ended")
BED = Spending("bed", 9000, 1)
MEAL = Spending("meal", 1250)
# Twins of MEAL, none equal to it or to the other one.
SHARED = MEAL.but(heads=2)
BARE = MEAL.but(paper=False)


def no_towns():
    """Tell things that are no towns of a journey."""
    forms = [(), (0,) * 31, (0,) * 32, (0,) * 29 + (4,), [0], [0, 1], {0: 0}, "012", ((0,),), ([0],), ((1, 0, 1, 1),)]
    wrong = [-1, 4, *far_numbers(), *no_numbers()]
    no_tuples = [thing for thing in whatever() if type(thing) is not tuple]
    return [*forms, *[(thing,) for thing in wrong], *[(0, thing, 1) for thing in wrong], *no_tuples]


def no_tenths():
    return [-1, 11, *far_numbers(), *no_numbers()]


def many_spendings(many):
    """Tell spendings that are all unlike, none a twin of another one."""
    return [Spending("fee", amount) for amount in range(1, many + 1)]


class JourneyTest(LikenessTest):
    def assert_stands(self, journey, spendings=(), sums=(), towns=TOWNS, begun=10, ended=10):
        """See that a journey has these, and nothing else."""
        told = journey.lines()
        self.assertIs(type(told), list)
        self.assertEqual(told, by_hand.lines(spendings))
        self.assertEqual(len(journey), len(spendings))
        self.assertEqual(journey.twins(), by_hand.twins(spendings))
        self.assert_alike(journey, made(spendings, sums, towns, begun, ended))

    def assert_refused(self, error, fields, ask, *args, **named):
        with self.assertRaises(error) as caught:
            ask(*args, **named)
        self.assertIs(type(caught.exception), error)
        for field, worth in fields.items():
            self.assertEqual(getattr(caught.exception, field), worth)
            self.assertIs(type(getattr(caught.exception, field)), type(worth))
        self.assertIsInstance(str(caught.exception), str)

    def assert_no_journey(self, part, *args, **named):
        self.assert_refused(NoJourney, {"part": part}, Journey, *args, **named)

    def assert_no_day(self, day, ask, *args):
        self.assert_refused(NoDay, {"day": day}, ask, *args)

    def assert_too_many(self, many, most, ask, *args):
        self.assert_refused(TooMany, {"many": many, "most": most}, ask, *args)

    def assert_nothing(self, journey):
        self.assert_refused(Nothing, {}, journey.undo)


class Interface(unittest.TestCase):
    def test_signatures(self):
        for function, told in (
            (Journey, "(towns, begun=10, ended=10)"),
            (Journey.spend, "(self, spending)"),
            (Journey.strike, "(self, spending)"),
            (Journey.had, "(self, amount)"),
            (Journey.undo, "(self)"),
            (Journey.twin, "(self)"),
            (Journey.lines, "(self)"),
            (Journey.town_on, "(self, day)"),
            (Journey.twins, "(self)"),
        ):
            self.assertEqual(str(inspect.signature(function)), told)

    def test_defined_in_this_file(self):
        self.assertEqual(Journey.__module__, journeys.__name__)
        for name in ("spend", "strike", "had", "undo", "twin", "lines", "town_on", "twins", "__eq__", "__len__"):
            self.assertIn(name, vars(Journey))


class Making(JourneyTest):
    """Point 60."""

    def test_by_places_by_names_and_left_out(self):
        for journey in (Journey(TOWNS, 3, 7), Journey(towns=TOWNS, begun=3, ended=7), Journey(TOWNS, ended=7, begun=3)):
            self.assert_stands(journey, begun=3, ended=7)
        for journey in (Journey(TOWNS), Journey(towns=TOWNS), Journey(TOWNS, 10), Journey(TOWNS, ended=10)):
            self.assert_stands(journey, begun=10, ended=10)
        self.assert_stands(Journey(TOWNS, 4), begun=4, ended=10)
        self.assert_stands(Journey(TOWNS, ended=4), begun=10, ended=4)

    def test_towns_cannot_be_left_out(self):
        with self.assertRaises(TypeError):
            Journey()

    def test_one_to_thirty_towns(self):
        for many in range(1, 31):
            towns = tuple(day % 4 for day in range(many))
            journey = Journey(towns)
            self.assert_stands(journey, towns=towns)
            self.assertEqual([journey.town_on(day) for day in range(many)], list(towns))
        for town in range(4):
            self.assertEqual(Journey((town,)).town_on(0), town)

    def test_tenths(self):
        for begun, ended in itertools.product(range(11), range(11)):
            self.assert_stands(Journey(TOWNS, begun, ended), begun=begun, ended=ended)
            self.assert_stands(Journey((1,), begun, ended), towns=(1,), begun=begun, ended=ended)

    def test_nothing_stands_at_first(self):
        journey = Journey(TOWNS)
        self.assertEqual(len(journey), 0)
        self.assertEqual(journey.lines(), [])
        self.assertEqual(journey.twins(), [])
        self.assert_nothing(journey)

    def test_no_towns(self):
        for thing in no_towns():
            with self.subTest(thing=thing):
                self.assert_no_journey("towns", thing)
                self.assert_no_journey("towns", towns=thing, begun=1, ended=2)

    def test_no_tenths(self):
        for thing in no_tenths():
            with self.subTest(thing=thing):
                self.assert_no_journey("begun", TOWNS, thing)
                self.assert_no_journey("begun", (0,), begun=thing, ended=0)
                self.assert_no_journey("ended", TOWNS, 10, thing)
                self.assert_no_journey("ended", (0,), ended=thing)

    def test_the_first_of_several(self):
        right = {"towns": TOWNS, "begun": 3, "ended": 7}
        for things in (((4,), 11, -1), ([], None, True), ("", "", ""), (deep_list(80), 10 ** 29, {}), (None,) * 3):
            wrong = dict(zip(PARTS, things))
            for marks in itertools.product((True, False), repeat=3):
                named = {part: wrong[part] if mark else right[part] for part, mark in zip(PARTS, marks)}
                if True in marks:
                    with self.subTest(named=named):
                        self.assert_no_journey(PARTS[marks.index(True)], **named)
                        self.assert_no_journey(PARTS[marks.index(True)], *named.values())

    def test_what_is_handed_in_stays(self):
        for thing in ([1, [2]], {"a": [1]}, ([1],)):
            kept = copy.deepcopy(thing)
            self.assert_no_journey("towns", thing)
            self.assert_no_journey("begun", TOWNS, thing)
            self.assertEqual(thing, kept)


class Spend(JourneyTest):
    """Point 61, `spend`."""

    def test_one(self):
        journey = Journey(TOWNS)
        self.assertIs(journey.spend(BED), None)
        self.assert_stands(journey, [BED])
        self.assertIs(journey.spend(spending=MEAL), None)
        self.assert_stands(journey, [BED, MEAL])

    def test_each_day(self):
        for many in (1, 2, 3, 29, 30):
            towns = (1,) * many
            for day in range(many):
                journey = Journey(towns)
                journey.spend(MEAL.but(day=day))
                self.assert_stands(journey, [MEAL.but(day=day)], towns=towns)

    def test_a_day_behind_the_last(self):
        for many in (1, 2, 3, 30):
            towns = (1,) * many
            for day in (many, 59):
                journey = Journey(towns)
                self.assert_no_day(day, journey.spend, MEAL.but(day=day))
                self.assert_stands(journey, towns=towns)
                self.assert_nothing(journey)

    def test_no_day_stands_under_index_error_alone(self):
        with self.assertRaises(IndexError) as caught:
            Journey((0,)).spend(BED)
        self.assertNotIsInstance(caught.exception, PenceError)

    def test_forty_and_one_more(self):
        journey = Journey(TOWNS)
        spendings = many_spendings(40)
        for spending in spendings:
            journey.spend(spending)
        self.assert_stands(journey, spendings)
        for more in (MEAL, spendings[0], spendings[39]):
            self.assert_too_many(41, 40, journey.spend, more)
            self.assert_stands(journey, spendings)

    def test_forty_that_are_equal(self):
        journey = made([MEAL] * 40)
        self.assert_stands(journey, [MEAL] * 40)
        self.assert_too_many(41, 40, journey.spend, MEAL)

    def test_no_day_ahead_of_too_many(self):
        journey = made(many_spendings(40))
        self.assert_no_day(3, journey.spend, MEAL.but(day=3))
        self.assert_too_many(41, 40, journey.spend, MEAL.but(day=2))

    def test_room_again_behind_strike_and_undo(self):
        journey = made(many_spendings(40))
        journey.strike(Spending("fee", 7))
        journey.spend(MEAL)
        self.assert_too_many(41, 40, journey.spend, BED)
        journey.undo()
        journey.spend(BED)
        self.assert_too_many(41, 40, journey.spend, MEAL)

    def test_money_without_a_rate_may_be_spent(self):
        journey = made([MEAL.but(money=3)])
        self.assert_stands(journey, [MEAL.but(money=3)])


class Strike(JourneyTest):
    """Point 61, `strike`."""

    def test_one_that_equals_one(self):
        journey = made([BED, MEAL])
        self.assertIs(journey.strike(Spending("meal", 1250)), None)
        self.assert_stands(journey, [BED])
        self.assertIs(journey.strike(spending=BED), None)
        self.assert_stands(journey)

    def test_a_twin_that_is_not_equal(self):
        for kept, other in itertools.permutations((MEAL, SHARED, BARE), 2):
            journey = made([kept])
            self.assert_refused(Absent, {}, journey.strike, other)
            self.assert_stands(journey, [kept])

    def test_the_one_among_its_twins(self):
        twins = [MEAL, SHARED, BARE]
        for order in itertools.permutations(twins):
            for gone in twins:
                journey = made(order)
                journey.strike(gone)
                self.assert_stands(journey, [spending for spending in twins if spending != gone])

    def test_one_that_is_not_there(self):
        journey = made([BED])
        for spending in (MEAL, BED.but(day=0), BED.but(amount=1), BED.but(money=1), MEAL.but(day=59)):
            self.assert_refused(Absent, {}, journey.strike, spending)
        self.assert_stands(journey, [BED])
        self.assert_refused(Absent, {}, Journey(TOWNS).strike, BED)

    def test_one_of_two_equal_ones(self):
        journey = made([MEAL, BED, Spending("meal", 1250)])
        journey.strike(MEAL)
        self.assert_stands(journey, [MEAL, BED])
        journey.strike(MEAL)
        self.assert_stands(journey, [BED])
        self.assert_refused(Absent, {}, journey.strike, MEAL)
        self.assert_stands(journey, [BED])

    def test_things_that_are_no_spendings(self):
        for thing in whatever():
            if not isinstance(thing, Spending):
                journey = made([BED, MEAL])
                with self.subTest(thing=thing):
                    self.assert_refused(Absent, {}, journey.strike, thing)
                    self.assert_refused(Absent, {}, Journey(TOWNS).strike, thing)
                self.assert_stands(journey, [BED, MEAL])


class Had(JourneyTest):
    """Point 61, `had`."""

    def test_bounds(self):
        for amount in (1, 2, MOST_SUM - 1, MOST_SUM):
            journey = Journey(TOWNS)
            self.assertIs(journey.had(amount), None)
            self.assert_stands(journey, sums=[amount])
            self.assertIs(journey.had(amount=amount), None)
            self.assert_stands(journey, sums=[amount, amount])
            self.assertEqual(journey.lines(), [])

    def test_no_share(self):
        for thing in (0, -1, MOST_SUM + 1, *far_numbers(), *no_numbers()):
            journey = made([BED], [5])
            with self.subTest(thing=thing):
                self.assert_refused(NoShare, {}, journey.had, thing)
            self.assert_stands(journey, [BED], [5])

    def test_ten_and_one_more(self):
        journey = Journey(TOWNS)
        for amount in range(1, 11):
            journey.had(amount)
        self.assert_stands(journey, sums=list(range(1, 11)))
        for amount in (1, 5, 11, MOST_SUM):
            self.assert_too_many(11, 10, journey.had, amount)
        self.assert_stands(journey, sums=list(range(1, 11)))

    def test_no_share_ahead_of_too_many(self):
        journey = made(sums=[7] * 10)
        for thing in (0, MOST_SUM + 1, True, None, "1", [1]):
            self.assert_refused(NoShare, {}, journey.had, thing)
        self.assert_too_many(11, 10, journey.had, 7)

    def test_room_again_behind_undo(self):
        journey = made(sums=[7] * 10)
        journey.undo()
        journey.had(8)
        self.assert_too_many(11, 10, journey.had, 7)
        self.assert_stands(journey, sums=[7] * 9 + [8])

    def test_spendings_and_sums_have_bounds_of_their_own(self):
        journey = made(many_spendings(40), range(1, 11))
        self.assert_too_many(41, 40, journey.spend, MEAL)
        self.assert_too_many(11, 10, journey.had, 1)
        self.assert_stands(journey, many_spendings(40), range(1, 11))


class Undo(JourneyTest):
    """Point 61, `undo`."""

    def test_each_deed(self):
        journey = made([BED], [5])
        journey.spend(MEAL)
        self.assertIs(journey.undo(), None)
        self.assert_stands(journey, [BED], [5])
        journey.strike(BED)
        self.assertIs(journey.undo(), None)
        self.assert_stands(journey, [BED], [5])
        journey.had(6)
        self.assertIs(journey.undo(), None)
        self.assert_stands(journey, [BED], [5])

    def test_all_of_them(self):
        journey = made([BED, MEAL], [5])
        journey.strike(BED)
        journey.undo()
        self.assert_stands(journey, [BED, MEAL], [5])
        journey.undo()
        self.assert_stands(journey, [BED, MEAL])
        journey.undo()
        self.assert_stands(journey, [BED])
        journey.undo()
        self.assert_stands(journey)
        self.assert_nothing(journey)
        self.assert_stands(journey)

    def test_nothing(self):
        journey = Journey(TOWNS)
        for _ in range(3):
            self.assert_nothing(journey)
        journey.had(1)
        journey.undo()
        self.assert_nothing(journey)

    def test_an_undone_deed_does_not_come_back(self):
        journey = made([BED])
        journey.spend(MEAL)
        journey.undo()
        journey.had(3)
        journey.undo()
        journey.undo()
        self.assert_stands(journey)
        self.assert_nothing(journey)

    def test_a_spending_struck_and_told_again(self):
        journey = made([BED])
        journey.strike(BED)
        journey.spend(BED)
        journey.undo()
        self.assert_stands(journey)
        journey.undo()
        self.assert_stands(journey, [BED])
        journey.undo()
        self.assert_stands(journey)
        self.assert_nothing(journey)

    def test_one_of_two_equal_sums(self):
        journey = made(sums=[5, 6, 5])
        journey.undo()
        self.assert_stands(journey, sums=[5, 6])
        journey.undo()
        self.assert_stands(journey, sums=[5])

    def test_one_of_equal_spendings(self):
        journey = made([MEAL, BED, MEAL])
        journey.undo()
        self.assert_stands(journey, [MEAL, BED])
        journey.undo()
        self.assert_stands(journey, [MEAL])

    def test_a_refused_deed_is_nothing_to_undo(self):
        journey = made([BED] * 40, range(1, 11))
        for _ in range(3):
            self.assert_no_day(3, journey.spend, MEAL.but(day=3))
            self.assert_too_many(41, 40, journey.spend, MEAL)
            self.assert_refused(Absent, {}, journey.strike, MEAL)
            self.assert_refused(NoShare, {}, journey.had, 0)
            self.assert_too_many(11, 10, journey.had, 1)
        journey.undo()
        self.assert_stands(journey, [BED] * 40, range(1, 10))
        journey = Journey(TOWNS)
        self.assert_refused(Absent, {}, journey.strike, MEAL)
        self.assert_refused(NoShare, {}, journey.had, 0)
        self.assert_nothing(journey)

    def test_asking_is_nothing_to_undo(self):
        journey = made([BED, MEAL])
        journey.lines()
        journey.twins()
        journey.twin()
        journey.town_on(0)
        journey.undo()
        self.assert_stands(journey, [BED])

    def test_over_a_hundred_deeds(self):
        journey = Journey(TOWNS)
        stood = [([], [])]
        for turn in range(150):
            spendings, sums = list(stood[-1][0]), list(stood[-1][1])
            if turn % 15 == 0:
                journey.had(turn + 1)
                sums.append(turn + 1)
            elif turn % 3 == 2:
                journey.strike(spendings.pop(turn % len(spendings)))
            elif turn < 90:
                spendings.append(Spending("ride", turn + 1, turn % 3))
                journey.spend(spendings[-1])
            else:
                journey.strike(spendings.pop(0))
                journey.spend(MEAL)
                stood.append((list(spendings), list(sums)))
                spendings.append(MEAL)
            stood.append((spendings, sums))
        self.assertGreater(len(stood), 150)
        while len(stood) > 1:
            self.assert_stands(journey, *stood.pop())
            journey.undo()
        self.assert_stands(journey)
        self.assert_nothing(journey)


class Twin(JourneyTest):
    """Point 61, `twin`."""

    def test_what_stands(self):
        for journey in (made([BED, MEAL, BED], [5, 5], begun=3, ended=4), Journey((0,), 0, 0), Journey((1,) * 30)):
            twin = journey.twin()
            self.assertIsInstance(twin, Journey)
            self.assert_alike(journey, twin)
            self.assertEqual(twin.lines(), journey.lines())
            self.assertEqual(len(twin), len(journey))

    def test_what_can_be_undone(self):
        journey = made([BED, MEAL], [5])
        journey.strike(BED)
        twin = journey.twin()
        for here in (twin, journey):
            here.undo()
            self.assert_stands(here, [BED, MEAL], [5])
            here.undo()
            self.assert_stands(here, [BED, MEAL])
            here.undo()
            here.undo()
            self.assert_stands(here)
            self.assert_nothing(here)

    def test_each_goes_on_by_itself(self):
        for turned in (False, True):
            one = made([BED, MEAL], [5])
            other = one.twin()
            if turned:
                one, other = other, one
            one.spend(SHARED)
            self.assert_stands(other, [BED, MEAL], [5])
            one.strike(BED)
            one.had(6)
            self.assert_stands(one, [MEAL, SHARED], [5, 6])
            self.assert_stands(other, [BED, MEAL], [5])
            other.undo()
            other.undo()
            other.spend(BARE)
            self.assert_stands(other, [BED, BARE])
            self.assert_stands(one, [MEAL, SHARED], [5, 6])
            for _ in range(3):
                one.undo()
            self.assert_stands(one, [BED, MEAL], [5])
            other.undo()
            other.undo()
            self.assert_nothing(other)
            self.assert_stands(one, [BED, MEAL], [5])

    def test_the_twin_of_a_twin(self):
        one = made([BED])
        other = one.twin().twin()
        one.undo()
        self.assert_stands(other, [BED])
        other.undo()
        self.assert_nothing(other)

    def test_bounds_of_twins(self):
        one = made(many_spendings(39), [1] * 9)
        other = one.twin()
        one.spend(MEAL)
        one.had(2)
        other.spend(MEAL)
        other.had(2)
        self.assert_too_many(41, 40, other.spend, MEAL)
        self.assert_too_many(11, 10, other.had, 1)


class Lines(JourneyTest):
    """Point 62, the lines."""

    def test_each_thing_that_they_rise_by(self):
        rows = [
            Spending("sundry", 9, 0, False, 6, 3),
            Spending("bed", 1, 1, True, 1, 0),
            Spending("bed", 1, 1, False, 1, 0),
            Spending("bed", 1, 1, True, 2, 0),
            Spending("bed", 1, 1, False, 2, 0),
            Spending("bed", 1, 1, True, 1, 1),
            Spending("bed", 2, 1, True, 1, 0),
            Spending("bed", 10, 1, True, 1, 0),
            Spending("fee", 1, 1, True, 1, 0),
            Spending("meal", 1, 1, True, 1, 0),
            Spending("ride", 1, 1, True, 1, 0),
            Spending("sundry", 1, 1, True, 1, 0),
            Spending("bed", 1, 2, True, 1, 0),
            Spending("bed", 1, 10, True, 1, 0),
        ]
        chance = random.Random(62)
        for _ in range(200):
            told = list(rows)
            chance.shuffle(told)
            journey = made(told, towns=(0,) * 11)
            self.assertEqual(journey.lines(), rows)
            self.assertEqual(len(journey), len(rows))

    def test_one_thing_ahead_of_all_later_ones(self):
        # The former is less by one thing, and greater by all that are asked later.
        for former, later in (
            (Spending("sundry", 9, 0, False, 6, 3), Spending("bed", 1, 1)),
            (Spending("bed", 9, 0, False, 6, 3), Spending("fee", 1)),
            (Spending("bed", 1, 0, False, 6, 3), Spending("bed", 2)),
            (Spending("bed", 1, 0, False, 6, 0), Spending("bed", 1, money=1)),
            (Spending("bed", 1, 0, False, 1, 0), Spending("bed", 1, heads=2)),
            (Spending("bed", 1, 0, True, 1, 0), Spending("bed", 1, paper=False)),
        ):
            self.assertEqual(made([later, former]).lines(), [former, later])
            self.assertEqual(made([former, later]).lines(), [former, later])

    def test_drawn_by_chance(self):
        chance = random.Random(621)
        for _ in range(300):
            towns = drawn_towns(chance)
            spendings = drawn_spendings(chance, len(towns))
            self.assert_stands(made(spendings, towns=towns), spendings, towns=towns)

    def test_the_list_told_is_the_askers_own(self):
        journey = made([BED, MEAL], [5])
        told = journey.lines()
        told.pop()
        told[0] = None
        self.assert_stands(journey, [BED, MEAL], [5])
        told.clear()
        journey.lines().append(SHARED)
        self.assert_stands(journey, [BED, MEAL], [5])
        Journey(TOWNS).lines().append(BED)
        self.assert_stands(Journey(TOWNS))

    def test_len(self):
        journey = Journey(TOWNS)
        for many in range(1, 41):
            journey.spend(MEAL)
            self.assertEqual(len(journey), many)
        for many in range(39, -1, -1):
            journey.undo()
            self.assertEqual(len(journey), many)
        self.assertEqual(len(made(sums=[1, 2])), 0)


class Equality(JourneyTest):
    """Point 62, == and !=."""

    def test_whatever_the_order(self):
        chance = random.Random(622)
        for _ in range(100):
            towns = drawn_towns(chance)
            spendings = drawn_spendings(chance, len(towns))
            sums = [chance.randint(1, 3) for _ in range(chance.randint(0, 10))]
            one = made(spendings, sums, towns)
            chance.shuffle(spendings)
            chance.shuffle(sums)
            self.assert_alike(one, made(spendings, sums, towns))
        self.assert_alike(made([BED, MEAL], [1, 2]), made([MEAL, BED], [2, 1]))

    def test_sums_between_spendings(self):
        one = made([BED], [1])
        one.spend(MEAL)
        self.assert_alike(one, made([MEAL, BED], [1]))

    def test_whatever_can_be_undone(self):
        one = made([BED, MEAL])
        one.strike(MEAL)
        other = made([BED])
        self.assert_alike(one, other)
        one.undo()
        self.assert_unlike(one, other)
        one.undo()
        self.assert_alike(one, other)

    def test_unlike_by_each_thing(self):
        plain = made([BED, MEAL], [5, 6], TOWNS, 3, 7)
        self.assert_alike(plain, made([BED, MEAL], [5, 6], TOWNS, 3, 7))
        for other in (
            made([BED, MEAL], [5, 6], (2, 0, 2), 3, 7),
            made([BED, MEAL], [5, 6], (0, 2, 3), 3, 7),
            made([BED, MEAL], [5, 6], (2, 0, 3, 0), 3, 7),
            made([BED, MEAL], [5, 6], (2, 0), 3, 7),
            made([BED, MEAL], [5, 6], TOWNS, 4, 7),
            made([BED, MEAL], [5, 6], TOWNS, 3, 8),
            made([BED, MEAL], [5, 6], TOWNS, 7, 3),
            made([BED], [5, 6], TOWNS, 3, 7),
            made([BED, MEAL, MEAL], [5, 6], TOWNS, 3, 7),
            made([BED, BED, MEAL], [5, 6], TOWNS, 3, 7),
            made([BED, SHARED], [5, 6], TOWNS, 3, 7),
            made([BED, BARE], [5, 6], TOWNS, 3, 7),
            made([BED, MEAL], [5], TOWNS, 3, 7),
            made([BED, MEAL], [5, 6, 6], TOWNS, 3, 7),
            made([BED, MEAL], [5, 7], TOWNS, 3, 7),
            made([BED, MEAL], [11], TOWNS, 3, 7),
            made([BED, MEAL], [], TOWNS, 3, 7),
        ):
            self.assert_unlike(plain, other)

    def test_sums_alike_in_number_but_not_in_amount(self):
        self.assert_unlike(made(sums=[1, 4]), made(sums=[2, 3]))
        self.assert_unlike(made(sums=[1, 1, 2]), made(sums=[1, 2, 2]))
        self.assert_unlike(made(sums=[1]), made(sums=[2]))
        self.assert_alike(made(sums=[1, 2, 1]), made(sums=[2, 1, 1]))

    def test_twins_may_be_told_in_any_order(self):
        for order in itertools.permutations((MEAL, SHARED, BARE)):
            self.assert_alike(made(order), made([MEAL, SHARED, BARE]))

    def test_never_a_thing_of_another_kind(self):
        for journey in (Journey((0,)), made([BED, MEAL], [5])):
            others = [journey.lines(), tuple(journey.lines()), TOWNS, (0,), (TOWNS, 10, 10), repr(journey)]
            others += [thing for thing in whatever() if not isinstance(thing, Journey)]
            for thing in others:
                with self.subTest(thing=thing):
                    self.assert_unlike(journey, thing)

    def test_alike_just_where_shown_alike(self):
        told = [Journey((0,)), Journey((0,), 9), made(), made([BED]), made([BED], [1, 2]), made([BED], [2, 1])]
        for one, other in itertools.product(told, told):
            self.assertEqual(repr(one) == repr(other), one == other)


class Towns(JourneyTest):
    """Point 62, the town of a day."""

    def test_each_day(self):
        for towns in ((0,), (3,), TOWNS, (1, 2) * 15, tuple(day * day % 4 for day in range(30))):
            journey = Journey(towns, 0, 0)
            for day, town in enumerate(towns):
                self.assertEqual(journey.town_on(day), town)
                self.assertEqual(journey.town_on(day=day), town)

    def test_no_day(self):
        for many in (1, 2, 3, 30):
            journey = Journey((1,) * many)
            for day in (-1, -many, many, many + 1, 59, 60, *far_numbers()):
                self.assert_no_day(day, journey.town_on, day)

    def test_things_that_are_no_day(self):
        journey = Journey((1,) * 30)
        for thing in no_numbers():
            with self.subTest(thing=thing), self.assertRaises(NoDay) as caught:
                journey.town_on(thing)
            self.assertIs(caught.exception.day, thing)

    def test_a_thing_far_too_deep(self):
        with self.assertRaises(NoDay) as caught:
            Journey((1,)).town_on(deep_list(20000))
        self.assertIsInstance(str(caught.exception), str)


class Twins(JourneyTest):
    """Point 62, the lines that have a twin ahead."""

    def test_none(self):
        self.assertEqual(made().twins(), [])
        self.assertEqual(made([MEAL]).twins(), [])
        for part in ({"kind": "bed"}, {"amount": 1251}, {"day": 1}, {"money": 1}):
            self.assertEqual(made([MEAL, MEAL.but(**part)]).twins(), [])
        self.assertEqual(made(many_spendings(40)).twins(), [])

    def test_two_and_three_of_one(self):
        self.assertEqual(made([MEAL, MEAL]).twins(), [1])
        self.assertEqual(made([MEAL, MEAL, MEAL]).twins(), [1, 2])
        self.assertEqual(made([MEAL] * 40).twins(), list(range(1, 40)))

    def test_alike_but_for_heads_or_paper(self):
        for one, other in itertools.product((MEAL, SHARED, BARE, SHARED.but(paper=False)), repeat=2):
            self.assertEqual(made([one, other]).twins(), [1])
        self.assertEqual(made([MEAL, SHARED, BARE]).twins(), [1, 2])

    def test_among_others(self):
        ahead, behind = Spending("bed", 1), Spending("ride", 1)
        self.assertEqual(made([behind, MEAL, ahead, BARE]).twins(), [2])
        self.assertEqual(made([behind, MEAL, ahead, ahead, BARE, behind]).twins(), [1, 3, 5])
        self.assertEqual(made([BED, BED.but(day=2), BED, BED.but(day=2)]).twins(), [1, 3])

    def test_strike_and_undo(self):
        journey = made([MEAL, BARE])
        journey.strike(MEAL)
        self.assertEqual(journey.twins(), [])
        journey.undo()
        self.assertEqual(journey.twins(), [1])
        journey.undo()
        self.assertEqual(journey.twins(), [])

    def test_the_list_told_is_the_askers_own(self):
        journey = made([MEAL, BARE])
        told = journey.twins()
        self.assertIs(type(told), list)
        told.append(7)
        told[0] = 0
        self.assertEqual(journey.twins(), [1])
        self.assert_stands(journey, [MEAL, BARE])


class AllDeeds(JourneyTest):
    """Points 61 and 62, deeds drawn by chance against what stands told anew."""

    def test_drawn_by_chance(self):
        chance = random.Random(61)
        for _ in range(60):
            towns = drawn_towns(chance, 4)
            journey, stood = Journey(towns), [([], [])]
            for _ in range(80):
                self.do_one(chance, journey, stood, len(towns))
                self.assertEqual(journey.lines(), by_hand.lines(stood[-1][0]))
            while len(stood) > 1:
                self.assert_stands(journey, *stood.pop(), towns=towns)
                journey.undo()
            self.assert_nothing(journey)

    def do_one(self, chance, journey, stood, days):
        """Do one deed to the journey, and tell what stands now."""
        spendings, sums = list(stood[-1][0]), list(stood[-1][1])
        deed = chance.choice(("spend", "spend", "spend", "strike", "had", "undo"))
        if deed == "undo":
            if len(stood) == 1:
                self.assert_nothing(journey)
                return
            journey.undo()
            stood.pop()
            return
        if deed == "spend" and len(spendings) < 40:
            spendings.append(drawn_spending(chance, days))
            journey.spend(spendings[-1])
        elif deed == "strike" and spendings:
            journey.strike(spendings.pop(chance.randrange(len(spendings))))
        elif deed == "had" and len(sums) < 10:
            sums.append(chance.randint(1, 3))
            journey.had(sums[-1])
        else:
            return
        stood.append((spendings, sums))


if __name__ == "__main__":
    unittest.main()
