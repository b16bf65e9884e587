import copy
import itertools
import unittest

from choicenet.errors import NetError, NoWay
from choicenet.ways import first_unlike, how_many, way_at
from tests.helper import (EXAMPLE, NO, SIXTY_FIGURES, YES, drawn_statements, every_statement, nested, odd, truth_set,
                          unlike)

SMALL = every_statement(3, [0, 2])


def ordered_settings(count):
    """Every setting of the switches below `count` in the order of point 9."""
    stands = itertools.product((False, True), repeat=count)
    return [list(itertools.compress(range(count), standing)) for standing in stands]


def plain_ways(statement, count):
    true_settings = truth_set(statement, range(count))
    return [setting for setting in ordered_settings(count) if frozenset(setting) in true_settings]


def switches_on(number, count):
    """The setting at a place among all of `count` switches: the first switch weighs most."""
    return [switch for switch in range(count) if number >> (count - 1 - switch) & 1]


class WayCase(unittest.TestCase):
    def assert_refused(self, statement, count, place):
        for error in (NoWay, NetError, ValueError):
            with self.subTest(statement=statement, count=count, place=place), self.assertRaises(error) as caught:
                way_at(statement, count, place)
            self.assertIs(type(caught.exception), NoWay)

    def assert_none_beyond(self, statement, count):
        many = how_many(statement, count)
        for place in (-1, -2, -many, -many - 1, many, many + 1, 2 * many + 1):
            if not 0 <= place < many:
                self.assert_refused(statement, count, place)

    def assert_ways(self, statement, count, ways):
        self.assertEqual(how_many(statement, count), len(ways), statement)
        self.assertEqual([way_at(statement, count, place) for place in range(len(ways))], ways, statement)


class Examples(WayCase):
    def test_those_of_point_10(self):
        self.assertEqual(how_many(EXAMPLE, 8), 160)
        self.assertEqual(way_at(EXAMPLE, 8, 0), [4])
        self.assertEqual(way_at(EXAMPLE, 8, 1), [4, 7])
        self.assertEqual(way_at(EXAMPLE, 8, 159), [0, 1, 2, 3, 4, 5, 6, 7])
        self.assert_refused(EXAMPLE, 8, 160)
        self.assert_refused(EXAMPLE, 8, -1)

    def test_those_in_which_4_is_off(self):
        statement = ("and", EXAMPLE, ("not", ("switch", 4)))
        self.assertEqual(how_many(statement, 8), 32)
        self.assertEqual(way_at(statement, 8, 0), [2, 7])
        in_order = [way_at(EXAMPLE, 8, place) for place in range(160)]
        self.assert_ways(statement, 8, [way for way in in_order if 4 not in way])

    def test_all_ways_of_the_example(self):
        self.assert_ways(EXAMPLE, 8, plain_ways(EXAMPLE, 8))

    def test_kinds(self):
        self.assertIs(type(how_many(NO, 3)), int)
        self.assertIs(type(how_many(YES, 0)), int)
        way = way_at(EXAMPLE, 8, 1)
        self.assertIs(type(way), list)
        self.assertEqual([type(switch) for switch in way], [int, int])


class AllWays(WayCase):
    def test_the_order_of_settings(self):
        self.assertEqual(ordered_settings(2), [[], [1], [0], [0, 1]])
        self.assert_ways(YES, 3, [[], [2], [1], [1, 2], [0], [0, 2], [0, 1], [0, 1, 2]])

    def test_every_small_statement(self):
        for statement in SMALL:
            for count in (3, 4):
                self.assert_ways(statement, count, plain_ways(statement, count))
            self.assert_none_beyond(statement, 3)

    def test_drawn_statements(self):
        for statement in drawn_statements(21, 25, 40, [0, 1, 3, 4]):
            for count in (5, 6):
                self.assert_ways(statement, count, plain_ways(statement, count))

    def test_drawn_statements_of_two_hundred_and_sixty(self):
        for statement in drawn_statements(22, 3, 260, list(range(8))):
            self.assert_ways(statement, 8, plain_ways(statement, 8))

    def test_none_at_all(self):
        for statement in (NO, ("and", ("switch", 0), ("not", ("switch", 0))), ("all", 1, ("switch", 1))):
            self.assertEqual(how_many(statement, 2), 0)
            for place in (-1, 0, 1):
                self.assert_refused(statement, 2, place)

    def test_no_switches(self):
        self.assert_ways(YES, 0, [[]])
        self.assert_ways(NO, 0, [])
        self.assert_ways(("not", NO), 0, [[]])
        for statement in (YES, NO):
            self.assert_none_beyond(statement, 0)

    def test_one_switch(self):
        self.assert_ways(YES, 1, [[], [0]])
        self.assert_ways(NO, 1, [])
        self.assert_ways(("switch", 0), 1, [[0]])
        self.assert_ways(("not", ("switch", 0)), 1, [[]])
        self.assert_ways(("some", 0, ("switch", 0)), 1, [[], [0]])
        for statement in (YES, NO, ("switch", 0)):
            self.assert_none_beyond(statement, 1)

    def test_switches_that_are_not_named_may_stand_either_way(self):
        self.assert_ways(("switch", 1), 3, [[1], [1, 2], [0, 1], [0, 1, 2]])
        self.assert_ways(("not", ("switch", 2)), 3, [[], [1], [0], [0, 1]])

    def test_a_switch_beyond_those_looked_at_is_off(self):
        self.assert_ways(("or", ("switch", 0), ("switch", 2)), 2, [[0], [0, 1]])
        self.assert_ways(("and", ("switch", 0), ("not", ("switch", 2))), 1, [[0]])
        self.assert_ways(("switch", SIXTY_FIGURES), 2, [])


class ManySwitches(WayCase):
    def test_forty(self):
        self.assertEqual(how_many(YES, 40), 2 ** 40)
        self.assertEqual(how_many(EXAMPLE, 40), 160 * 2 ** 32)
        self.assertEqual(how_many(("switch", 39), 40), 2 ** 39)
        self.assertEqual(way_at(("switch", 39), 40, 0), [39])
        self.assertEqual(way_at(EXAMPLE, 40, 0), [4])
        self.assertEqual(way_at(EXAMPLE, 40, 1), [4, 39])
        self.assertEqual(way_at(EXAMPLE, 40, 160 * 2 ** 32 - 1), list(range(40)))
        self.assert_none_beyond(EXAMPLE, 40)

    def test_two_hundred(self):
        self.assertEqual(how_many(YES, 200), 2 ** 200)
        self.assertEqual(how_many(NO, 200), 0)
        self.assertEqual(how_many(EXAMPLE, 200), 160 * 2 ** 192)
        self.assertEqual(way_at(EXAMPLE, 200, 0), [4])
        self.assertEqual(way_at(EXAMPLE, 200, 2), [4, 198])
        self.assertEqual(way_at(EXAMPLE, 200, 160 * 2 ** 192 - 1), list(range(200)))
        for statement in (YES, NO, EXAMPLE, ("switch", 199)):
            self.assert_none_beyond(statement, 200)

    def test_places_among_all_settings(self):
        for count in (8, 40, 200):
            for place in (0, 1, 5, 77, 2 ** count // 3, 2 ** (count - 1), 2 ** count - 1):
                self.assertEqual(way_at(YES, count, place), switches_on(place, count))

    def test_places_with_the_last_or_the_first_switch_on(self):
        for place in (0, 1, 12345, 2 ** 198 + 7, 2 ** 199 - 1):
            self.assertEqual(way_at(("switch", 199), 200, place), switches_on(place, 199) + [199])
            self.assertEqual(way_at(("switch", 0), 200, place), switches_on(place + 2 ** 199, 200))

    def test_eight_switches_far_apart(self):
        switches = [0, 28, 57, 85, 113, 142, 170, 199]
        statement = odd(switches)
        many = how_many(statement, 200)
        self.assertEqual(many, 2 ** 199)
        found = [way_at(statement, 200, place) for place in (0, 1, 2, many // 5, many // 2, many - 2, many - 1)]
        self.assertEqual(found[:2], [[199], [198, 199]])
        for way in found:
            self.assertEqual(len([switch for switch in way if switch in switches]) % 2, 1)
            self.assertEqual(way, sorted(set(way)))
        weights = [sum(2 ** (199 - switch) for switch in way) for way in found]
        self.assertEqual(weights, sorted(set(weights)))

    def test_places_of_sixty_figures(self):
        self.assertEqual(way_at(YES, 200, SIXTY_FIGURES), switches_on(SIXTY_FIGURES, 200))
        self.assert_refused(YES, 199, SIXTY_FIGURES)
        for count in (0, 1, 8, 40, 200):
            self.assert_refused(YES, count, -SIXTY_FIGURES)
            self.assert_refused(NO, count, SIXTY_FIGURES)
        for count in (8, 40):
            self.assert_refused(EXAMPLE, count, SIXTY_FIGURES)
            self.assert_refused(EXAMPLE, count, -SIXTY_FIGURES)

    def test_a_place_too_great_to_be_written(self):
        self.assert_refused(EXAMPLE, 200, 10 ** 5000)
        self.assert_refused(EXAMPLE, 200, -10 ** 5000)

    def test_somewhat_more_switches(self):
        self.assertEqual(how_many(("switch", 299), 300), 2 ** 299)
        self.assertEqual(way_at(("switch", 299), 300, 1), [298, 299])

    def test_two_hundred_and_sixty_one_within_the_other(self):
        deep = nested([lambda inner: ("not", inner)], 259, ("switch", 3))
        self.assertEqual(how_many(deep, 5), 16)
        self.assertEqual(way_at(deep, 5, 15), [0, 1, 2, 4])
        self.assertEqual(first_unlike(deep, ("not", ("switch", 3)), 200), None)
        self.assertEqual(first_unlike(deep, ("switch", 3), 200), [])

    def test_what_is_handed_in_stays_as_it_was(self):
        statement = ("all", 1, ("or", EXAMPLE, ("some", 2, ("not", ("switch", 1)))))
        before = copy.deepcopy(statement)
        how_many(statement, 8)
        way_at(statement, 8, 0).append(99)
        first_unlike(statement, EXAMPLE, 8)
        self.assertEqual(statement, before)
        self.assertNotIn(99, way_at(statement, 8, 0))


class FirstUnlike(unittest.TestCase):
    def assert_first(self, one, other, count, setting):
        for first, second in ((one, other), (other, one)):
            with self.subTest(first=first, second=second, count=count):
                self.assertEqual(first_unlike(first, second, count), setting)

    def test_the_same_in_other_words(self):
        turned = ("not", ("and", ("not", ("switch", 4)), ("not", ("and", ("switch", 7), ("switch", 2)))))
        looked = ("some", 5, ("or", ("and", EXAMPLE, ("switch", 5)), ("and", ("switch", 5), EXAMPLE)))
        for count in (8, 40, 200):
            for same in (EXAMPLE, turned, looked, ("not", ("not", EXAMPLE)), ("all", 3, EXAMPLE)):
                self.assertIsNone(first_unlike(EXAMPLE, same, count))
                self.assertIsNone(first_unlike(same, EXAMPLE, count))

    def test_no_switches(self):
        self.assertIsNone(first_unlike(YES, ("not", NO), 0))
        self.assertIsNone(first_unlike(NO, NO, 0))
        self.assert_first(YES, NO, 0, [])

    def test_the_first_setting_is_the_empty_one_where_that_tells_them_apart(self):
        for count in (8, 40, 200):
            self.assert_first(EXAMPLE, YES, count, [])
            self.assert_first(EXAMPLE, ("not", EXAMPLE), count, [])

    def test_the_first_setting(self):
        for count in (8, 40, 200):
            self.assert_first(EXAMPLE, NO, count, [4])
            self.assert_first(EXAMPLE, ("switch", 4), count, [2, 7])
            self.assert_first(EXAMPLE, ("or", ("switch", 4), ("switch", 2)), count, [2])
            self.assert_first(EXAMPLE, ("or", EXAMPLE, ("switch", 0)), count, [0])
            self.assert_first(("switch", 1), ("switch", 6), count, [6])
            self.assert_first(("and", ("switch", 0), ("switch", 1)), ("and", ("switch", 0), ("switch", 7)), count,
                              [0, 7])

    def test_the_last_of_two_hundred(self):
        self.assert_first(("switch", 199), NO, 200, [199])
        self.assert_first(("and", ("switch", 0), ("switch", 199)), ("switch", 0), 200, [0])
        self.assert_first(("and", ("switch", 3), ("switch", 199)), ("and", ("switch", 3), ("switch", 39)), 200,
                          [3, 199])

    def test_the_very_last_setting(self):
        every = YES
        for switch in range(8):
            every = ("and", every, ("switch", switch))
        self.assert_first(every, NO, 8, list(range(8)))
        self.assert_first(every, NO, 200, list(range(8)))

    def test_small_statements_with_one_another(self):
        chosen = SMALL[::9]
        for one, other in itertools.combinations_with_replacement(chosen, 2):
            differ = truth_set(one, range(4)) ^ truth_set(other, range(4))
            settings = [setting for setting in ordered_settings(4) if frozenset(setting) in differ]
            self.assert_first(one, other, 4, settings[0] if settings else None)

    def test_drawn_statements(self):
        drawn = drawn_statements(23, 30, 60, list(range(6)))
        for one, other in zip(drawn, drawn[1:] + drawn[:1]):
            ways = plain_ways(unlike(one, other), 6)
            self.assert_first(one, other, 6, ways[0] if ways else None)
            self.assert_first(one, other, 200, ways[0] if ways else None)

    def test_kind(self):
        self.assertIs(type(first_unlike(YES, NO, 3)), list)


if __name__ == "__main__":
    unittest.main()
