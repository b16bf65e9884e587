import copy
import unittest

from choicenet.statements import folded, is_true, parts_of, with_switch
from tests.helper import (EXAMPLE, NO, SIXTY_FIGURES, YES, drawn_statements, every_statement, named, nested, odd,
                          settings_of, size, truth_set)

ONE = ("switch", 1)
TWO = ("switch", 2)
OUT_OF_1_AND_2 = [[], [1], [2], [1, 2]]


class TruthCase(unittest.TestCase):
    def assert_true_at(self, statement, true_settings, settings=OUT_OF_1_AND_2):
        for setting in settings:
            with self.subTest(statement=statement, setting=setting):
                self.assertIs(is_true(statement, setting), setting in true_settings)

    def assert_as_told(self, statement, switches):
        true_settings = truth_set(statement, switches)
        for setting in settings_of(switches):
            if is_true(statement, setting) is not (frozenset(setting) in true_settings):
                self.fail(f"{statement!r} at {setting!r}")


class EachSort(TruthCase):
    def test_yes_and_no(self):
        self.assert_true_at(YES, OUT_OF_1_AND_2)
        self.assert_true_at(NO, [])

    def test_switch(self):
        self.assert_true_at(ONE, [[1], [1, 2]])
        self.assert_true_at(TWO, [[2], [1, 2]])
        self.assert_true_at(("switch", 0), [[0], [0, 1]], [[], [0], [1], [0, 1]])

    def test_not(self):
        self.assert_true_at(("not", YES), [])
        self.assert_true_at(("not", NO), OUT_OF_1_AND_2)
        self.assert_true_at(("not", ONE), [[], [2]])
        self.assert_true_at(("not", ("not", ONE)), [[1], [1, 2]])

    def test_and(self):
        self.assert_true_at(("and", ONE, TWO), [[1, 2]])
        self.assert_true_at(("and", ONE, YES), [[1], [1, 2]])
        self.assert_true_at(("and", NO, ONE), [])
        self.assert_true_at(("and", ("not", ONE), TWO), [[2]])
        self.assert_true_at(("and", ONE, ("not", TWO)), [[1]])

    def test_or(self):
        self.assert_true_at(("or", ONE, TWO), [[1], [2], [1, 2]])
        self.assert_true_at(("or", ONE, NO), [[1], [1, 2]])
        self.assert_true_at(("or", YES, ONE), OUT_OF_1_AND_2)
        self.assert_true_at(("or", ("not", ONE), TWO), [[], [2], [1, 2]])
        self.assert_true_at(("or", ONE, ("not", TWO)), [[], [1], [1, 2]])

    def test_all_of_a_switch_in_the_statement(self):
        self.assert_true_at(("all", 1, ONE), [])
        self.assert_true_at(("all", 1, ("not", ONE)), [])
        self.assert_true_at(("all", 1, ("or", ONE, TWO)), [[2], [1, 2]])
        self.assert_true_at(("all", 1, ("or", ("not", ONE), TWO)), [[2], [1, 2]])
        self.assert_true_at(("all", 1, ("or", ONE, ("not", ONE))), OUT_OF_1_AND_2)

    def test_some_of_a_switch_in_the_statement(self):
        self.assert_true_at(("some", 1, ONE), OUT_OF_1_AND_2)
        self.assert_true_at(("some", 1, ("not", ONE)), OUT_OF_1_AND_2)
        self.assert_true_at(("some", 1, ("and", ONE, TWO)), [[2], [1, 2]])
        self.assert_true_at(("some", 1, ("and", ("not", ONE), TWO)), [[2], [1, 2]])
        self.assert_true_at(("some", 1, ("and", ONE, ("not", ONE))), [])

    def test_all_and_some_of_a_switch_that_is_not_in_the_statement(self):
        for word in ("all", "some"):
            self.assert_true_at((word, 3, ONE), [[1], [1, 2], [1, 3]], OUT_OF_1_AND_2 + [[3], [1, 3]])
            self.assert_true_at((word, 2, ONE), [[1], [1, 2]])
            self.assert_true_at((word, 1, YES), OUT_OF_1_AND_2)
            self.assert_true_at((word, 1, NO), [])


class WithinOneAnother(TruthCase):
    def test_the_example_of_point_7(self):
        settings = settings_of([2, 4, 7])
        self.assert_true_at(EXAMPLE, [[4], [2, 4], [2, 7], [4, 7], [2, 4, 7]], settings)

    def test_a_look_reaches_only_what_is_within_it(self):
        self.assert_true_at(("and", ONE, ("some", 1, ("not", ONE))), [[1], [1, 2]])
        self.assert_true_at(("or", ("all", 1, ONE), ("not", ONE)), [[], [2]])

    def test_a_look_within_a_look_at_the_same_switch(self):
        self.assert_true_at(("all", 1, ("some", 1, ONE)), OUT_OF_1_AND_2)
        self.assert_true_at(("some", 1, ("all", 1, ONE)), [])
        self.assert_true_at(("some", 1, ("and", ONE, ("all", 1, ("or", ONE, TWO)))), [[2], [1, 2]])

    def test_the_order_of_all_and_some(self):
        same = ("or", ("and", ONE, TWO), ("and", ("not", ONE), ("not", TWO)))
        self.assert_true_at(("all", 1, ("some", 2, same)), OUT_OF_1_AND_2)
        self.assert_true_at(("some", 2, ("all", 1, same)), [])

    def test_switches_that_are_not_named_make_no_difference(self):
        self.assertIs(is_true(EXAMPLE, [0, 1, 3, 4, 100]), True)
        self.assertIs(is_true(EXAMPLE, [0, 1, 2, 3, 5, 6, 8]), False)

    def test_every_small_statement(self):
        for statement in every_statement(4, [0, 5]):
            self.assert_as_told(statement, [0, 5])

    def test_drawn_statements(self):
        for statement in drawn_statements(1, 40, 30, [0, 1, 2, 9]):
            self.assert_as_told(statement, [0, 1, 2, 9])

    def test_parts_stand_behind_those_within(self):
        either = ("and", TWO, YES)
        self.assertEqual(parts_of(("or", ("not", ONE), either)),
                         [ONE, ("not", ONE), TWO, YES, either, ("or", ("not", ONE), either)])

    def test_what_is_told_of_those_within_comes_in_their_order(self):
        told = folded(("or", ("and", ONE, TWO), ("all", 3, NO)), lambda part, inner: (part[0], inner))
        self.assertEqual(told, ("or", [("and", [("switch", []), ("switch", [])]), ("all", [("no", [])])]))


class SetSwitch(unittest.TestCase):
    def test_switch_itself(self):
        for setting in OUT_OF_1_AND_2:
            self.assertIs(is_true(with_switch(ONE, 1, True), setting), True)
            self.assertIs(is_true(with_switch(ONE, 1, False), setting), False)

    def test_the_example_with_each_switch_set(self):
        self.assertEqual(with_switch(EXAMPLE, 4, False), ("or", NO, ("and", ("switch", 2), ("switch", 7))))
        self.assertEqual(with_switch(EXAMPLE, 7, True), ("or", ("switch", 4), ("and", ("switch", 2), YES)))

    def test_a_switch_that_makes_no_difference(self):
        for on in (False, True):
            self.assertEqual(with_switch(EXAMPLE, 3, on), EXAMPLE)
            for word in ("all", "some"):
                looked = (word, 1, ("and", ONE, TWO))
                self.assertEqual(with_switch(looked, 1, on), looked)

    def test_within_and_beside_a_look(self):
        statement = ("and", ONE, ("some", 1, ("not", ONE)))
        self.assertEqual(with_switch(statement, 1, True), ("and", YES, ("some", 1, ("not", ONE))))
        self.assertEqual(with_switch(("all", 2, ("or", ONE, TWO)), 1, False), ("all", 2, ("or", NO, TWO)))
        self.assertEqual(with_switch(("some", 2, ("not", ONE)), 1, True), ("some", 2, ("not", YES)))

    def assert_set(self, statement, switch, switches):
        true_settings = truth_set(statement, switches)
        for on in (False, True):
            made = with_switch(statement, switch, on)
            for setting in settings_of(switches):
                standing = frozenset(setting) | {switch} if on else frozenset(setting) - {switch}
                if is_true(made, setting) is not (standing in true_settings):
                    self.fail(f"{statement!r} with {switch} set to {on} at {setting!r}")

    def test_every_small_statement(self):
        for statement in every_statement(4, [0, 5]):
            self.assert_set(statement, 5, [0, 5])

    def test_drawn_statements(self):
        for statement in drawn_statements(2, 30, 30, [0, 1, 2]):
            self.assert_set(statement, 1, [0, 1, 2])

    def test_deep_statement(self):
        deep = nested([lambda inner: ("not", inner), lambda inner: ("some", 2, inner)], 600, ONE)
        self.assertIs(is_true(with_switch(deep, 1, True), []), is_true(deep, [1]))
        self.assertIs(is_true(with_switch(deep, 1, False), [1]), is_true(deep, []))


class Bounds(TruthCase):
    def test_two_hundred_and_sixty_one_within_the_other(self):
        for depth in (259, 258, 3000):
            deep = nested([lambda inner: ("not", inner)], depth, ONE)
            self.assertIs(is_true(deep, [1]), depth % 2 == 0)
            self.assertIs(is_true(deep, []), depth % 2 == 1)

    def test_two_hundred_and_sixty_one_beside_the_other(self):
        for word in ("and", "or"):
            left = nested([lambda inner: (word, inner, ONE)], 130, TWO)
            right = nested([lambda inner: (word, ONE, inner)], 130, TWO)
            self.assertGreater(size(left), 260)
            for statement in (left, right):
                self.assert_true_at(statement, [[1, 2]] if word == "and" else [[1], [2], [1, 2]])

    def test_looks_at_eight_switches_many_times_over(self):
        wraps = []
        for switch in range(8):
            wraps.append(lambda inner, switch=switch: ("all", switch, inner))
            wraps.append(lambda inner, switch=switch: ("or", ("switch", switch), inner))
            wraps.append(lambda inner, switch=switch: ("some", switch, inner))
        deep = nested(wraps, 190, ("switch", 7))
        self.assertGreater(size(deep), 250)
        true_settings = truth_set(deep, range(8))
        for setting in settings_of(range(8))[::16]:
            self.assertIs(is_true(deep, setting), frozenset(setting) in true_settings)

    def test_eight_switches(self):
        statement = odd(list(range(8)))
        self.assertEqual(len(named(statement)), 8)
        for setting in settings_of(range(8)):
            self.assertIs(is_true(statement, setting), len(setting) % 2 == 1)

    def test_drawn_statements_of_two_hundred_and_sixty(self):
        for statement in drawn_statements(3, 3, 260, list(range(8))):
            true_settings = truth_set(statement, range(8))
            for setting in settings_of(range(8))[::16]:
                self.assertIs(is_true(statement, setting), frozenset(setting) in true_settings)

    def test_a_switch_of_sixty_figures(self):
        great = ("switch", SIXTY_FIGURES)
        self.assertIs(is_true(great, [SIXTY_FIGURES]), True)
        self.assertIs(is_true(great, [SIXTY_FIGURES - 1]), False)
        self.assertIs(is_true(("all", SIXTY_FIGURES, great), [SIXTY_FIGURES]), False)
        self.assertIs(is_true(("some", SIXTY_FIGURES, great), []), True)
        self.assertEqual(with_switch(great, SIXTY_FIGURES, True), YES)
        self.assertEqual(with_switch(great, SIXTY_FIGURES - 1, True), great)

    def test_what_is_handed_in_stays_as_it_was(self):
        statement = ("and", ("some", 1, ("or", ONE, TWO)), ("not", ("all", 2, TWO)))
        setting = [1, 2]
        statement_before = copy.deepcopy(statement)
        is_true(statement, setting)
        with_switch(statement, 1, True)
        self.assertEqual(setting, [1, 2])
        self.assertEqual(statement, statement_before)


if __name__ == "__main__":
    unittest.main()
