import copy
import random
import unittest
from itertools import product

from anycut.errors import CutError, DoubleName, InvalidName, InvalidState, InvalidStep, UnknownCall
from anycut.services import Service, reduced, side
from plain import NAMES, coming, service_of, singly, some_service, stand_alone

FLAG = [[(0, None), (1, None), (0, 0)], [(0, None), (1, None), (1, 1)]]


def flag():
    return Service(["off", "on", "look"], FLAG)


class WithErrors(unittest.TestCase):
    def raised(self, kind, value, call, *rest, **more):
        with self.assertRaises(CutError) as caught:
            call(*rest, **more)
        self.assertIs(type(caught.exception), kind)
        self.assertEqual(caught.exception.value, value)
        return caught.exception.value


class Names(WithErrors):
    def test_one_to_eight_letters(self):
        for name in ["a", "z", "abcdefgh", "zzzzzzzz"]:
            self.assertEqual(Service([name], [[(0, None)]]).calls, [name])
        wrong = ["", "abcdefghi", "A", "aB", "a1", "a b", "a-", "_", "\u00e4", "a\n", " a", "\u0430", None, 5, ("a",)]
        for name in wrong:
            self.raised(InvalidName, name, Service, [name], [[(0, None)]])

    def test_names_alike_but_for_one_letter(self):
        one = Service(["abcdefgh", "abcdefgg", "abcdefg"], [[(0, 1), (0, 2), (0, 3)]])
        self.assertEqual(one.run(["abcdefgg", "abcdefg", "abcdefgh"]), ([2, 3, 1], 0))

    def test_a_double_name(self):
        self.raised(DoubleName, "b", Service, ["a", "b", "c", "b", "a"], [[(0, 0)] * 5])

    def test_names_are_checked_one_after_the_other(self):
        self.raised(DoubleName, "a", Service, ["a", "a", "B"], [[(0, 0)] * 3])
        self.raised(InvalidName, "B", Service, ["a", "B", "a"], [[(0, 0)] * 3])
        self.raised(InvalidName, "B", Service, ["B", "B"], [[(0, 0)] * 2])

    def test_names_before_the_table(self):
        self.raised(InvalidName, "B", Service, ["B"], [[]])
        self.raised(DoubleName, "a", Service, ["a", "a"], [[(9, 0)]])


class Tables(WithErrors):
    def test_a_state_with_another_number_of_tuples(self):
        self.raised(InvalidState, 0, Service, ["a", "b"], [[(0, 0)]])
        self.raised(InvalidState, 1, Service, ["a"], [[(0, 0)], [(0, 0), (0, 0)], []])
        self.raised(InvalidState, 1, Service, ["a"], [[(0, 0)], []])

    def test_a_step_to_no_state(self):
        for onward in [1, -1, 7, None, True]:
            step = (onward, 3)
            self.assertIs(self.raised(InvalidStep, step, Service, ["a"], [[step]]), step)
        self.raised(InvalidStep, (2, 1), Service, ["a", "b"], [[(1, 0), (0, 0)], [(0, 0), (2, 1)]])

    def test_states_that_never_come_about_are_checked_too(self):
        self.raised(InvalidStep, (3, 0), Service, ["a"], [[(0, 0)], [(3, 0)]])
        self.raised(InvalidState, 1, Service, ["a"], [[(0, 0)], []])

    def test_states_are_checked_one_after_the_other(self):
        self.raised(InvalidStep, (5, 0), Service, ["a"], [[(5, 0)], []])
        self.raised(InvalidState, 0, Service, ["a"], [[], [(5, 0)]])
        self.raised(InvalidState, 0, Service, ["a"], [[(5, 0), (6, 0)], [(5, 0)]])
        self.raised(InvalidStep, (5, 0), Service, ["a", "b"], [[(5, 0), (6, 0)], [(0, 0)]])

    def test_behind_an_error_nothing_has_changed(self):
        names, table = ["a", "b"], [[(0, 0), (1, 0)], [(2, 0), (0, 0)]]
        kept = copy.deepcopy((names, table))
        self.raised(InvalidStep, (2, 0), Service, names, table)
        self.assertEqual((names, table), kept)

    def test_numbered_as_reached_first(self):
        one = Service(["a", "b"], [[(3, 1), (2, 2)], [(0, 3), (0, 4)], [(2, 5), (4, 6)], [(0, 7), (3, 8)],
                                   [(4, 9), (3, None)]])
        self.assertEqual(one.table, [[(1, 1), (2, 2)], [(0, 7), (1, 8)], [(2, 5), (3, 6)], [(3, 9), (1, None)]])
        self.assertEqual(len(one), 4)
        self.assertEqual(one["a"], [(1, 1), (0, 7), (2, 5), (3, 9)])

    def test_by_new_numbers_and_not_by_depth(self):
        # State 3 is reached ahead of state 1: by the first state that is reached, not by the deepest one.
        one = Service(["a", "b"], [[(2, None), (4, None)], [(1, 0), (1, 0)], [(3, None), (2, None)],
                                   [(1, 1), (3, 1)], [(1, 2), (4, 2)]])
        self.assertEqual(one.table, [[(1, None), (2, None)], [(3, None), (1, None)], [(4, 2), (2, 2)],
                                     [(4, 1), (3, 1)], [(4, 0), (4, 0)]])

    def test_states_in_any_sequence(self):
        source = random.Random(1)
        for _ in range(200):
            names, table = some_service(source, 6, 4)
            others = list(range(1, len(table)))
            source.shuffle(others)
            place = [0] + others
            turned = [None] * len(table)
            for state, row in enumerate(table):
                turned[place[state]] = [(place[onward], answer) for onward, answer in row]
            self.assertEqual(Service(names, table), Service(names, turned))
            self.assertEqual(Service(names, table).table, Service(names, turned).table)
            self.assertEqual(len(Service(names, table)), len(coming(names, table)))

    def test_one_state_alone(self):
        one = Service(["a"], [[(0, None)]])
        self.assertEqual((len(one), one.table, one["a"]), (1, [[(0, None)]], [(0, None)]))
        self.assertEqual(one.run(["a"] * 40), ([None] * 40, 0))

    def test_great_services(self):
        wide = 10 ** 20 - 1
        names = list(NAMES[:11])
        table = [[((state + at) % 25, -wide + at) for at in range(11)] for state in range(25)]
        one = Service(names, table)
        self.assertEqual((len(one), one.run(["b"] * 40)), (25, ([1 - wide] * 40, 15)))


class Asking(WithErrors):
    def test_run(self):
        one = flag()
        self.assertEqual(one.run([]), ([], 0))
        self.assertEqual(one.run([], 1), ([], 1))
        self.assertEqual(one.run(row=["look", "off", "look"], state=1), ([1, None, 0], 0))

    def test_run_with_wrong_inputs(self):
        one = flag()
        for state in [2, -1, 9, None, True, False]:
            self.raised(InvalidState, state, one.run, ["on"], state)
            self.raised(InvalidState, state, one.run, [], state)
        self.raised(UnknownCall, "of", one.run, ["on", "of", "no"])
        self.raised(InvalidState, 2, one.run, ["of"], 2)

    def test_run_only_from_states_that_come_about(self):
        one = Service(["a"], [[(0, 0)], [(0, 1)]])
        self.raised(InvalidState, 1, one.run, ["a"], 1)

    def test_run_is_what_the_table_says(self):
        source = random.Random(2)
        for _ in range(100):
            names, table = some_service(source, 8, 5)
            row = [source.choice(names) for _ in range(40)]
            one = Service(names, table)
            self.assertEqual(one.run(row)[0], singly(names, table, row, 0)[0])
            state = source.randrange(len(one))
            self.assertEqual(one.run(row, state), singly(names, one.table, row, state))

    def test_item_of_no_call(self):
        one = flag()
        for name in ["of", "", "Off", "offf"]:
            self.raised(UnknownCall, name, lambda: one[name])
        self.assertEqual(one["off"], [(0, None), (0, None)])

    def test_no_iteration(self):
        self.assertRaises(TypeError, iter, flag())

    def test_equality(self):
        self.assertTrue(flag() == flag())
        self.assertFalse(flag() != flag())
        self.assertFalse(flag() == Service(["off", "on", "see"], FLAG))
        self.assertFalse(flag() == Service(["on", "off", "look"], FLAG))
        self.assertFalse(flag() == Service(["off", "on", "look"], [[(0, None), (0, None), (0, 0)]]))
        self.assertFalse(Service(["a"], [[(0, 0)]]) == Service(["a"], [[(0, None)]]))
        self.assertTrue(Service(["a"], [[(0, 0)], [(1, 5)]]) == Service(["a"], [[(0, 0)]]))
        for other in [None, 0, FLAG, ["off", "on", "look"], (flag().calls, flag().table), "flag"]:
            self.assertFalse(flag() == other)
            self.assertTrue(flag() != other)

    def test_lists_changed_behind_a_call(self):
        names, table = ["off", "on", "look"], copy.deepcopy(FLAG)
        one = Service(names, table)
        names.append("more")
        names[0] = "of"
        table[0][2] = (1, 5)
        table.append([])
        self.assertEqual(one, flag())
        self.assertEqual(one.run(["look", "off"]), ([0, None], 0))

    def test_told_lists_changed(self):
        one = flag()
        for told in [one.calls, one.table, one["on"], one.run(["on"])[0]]:
            told.clear()
        one.table[0][0] = (1, 1)
        self.assertEqual((one, one.calls, one["look"]), (flag(), ["off", "on", "look"], [(0, 0), (1, 1)]))
        self.assertTrue(stand_alone(one.calls, one.calls, one.table, one.table, one["on"], one["on"]))
        self.assertTrue(stand_alone(one.run([]), one.run([])))

    def test_rows_of_one_list_stand_alone(self):
        row = [(0, 0), (1, 1)]
        one = Service(["a", "b"], [row, row])
        self.assertTrue(stand_alone(one.table))
        self.assertEqual(one.table, [row, row])

    def test_arguments_by_name_and_not_changed(self):
        names, table, row = ["off", "on", "look"], copy.deepcopy(FLAG), ["on", "look"]
        one = Service(names=names, table=table)
        one.run(row=row)
        self.assertEqual((names, table, row), (["off", "on", "look"], FLAG, ["on", "look"]))


class Sides(WithErrors):
    def test_each_call_concerns_its_own_service(self):
        source = random.Random(3)
        for _ in range(100):
            one = service_of(some_service(source, 5, 4))
            names, table = some_service(source, 5, 4)
            other = Service(["x" + name for name in names], table)
            both = side(one, other)
            self.assertEqual(both.calls, one.calls + other.calls)
            self.assertEqual(len(both), len(one) * len(other))
            row = [source.choice(both.calls) for _ in range(40)]
            answers = both.run(row)[0]
            for part in [one, other]:
                own = [at for at, name in enumerate(row) if name in part.calls]
                self.assertEqual([answers[at] for at in own], part.run([row[at] for at in own])[0])

    def test_the_table_of_pairs(self):
        one, other = Service(["a"], [[(1, 1)], [(0, 2)]]), Service(["b"], [[(1, 3)], [(1, 4)]])
        self.assertEqual(side(one=one, other=other).table, [
            [(1, 1), (2, 3)], [(0, 2), (3, 3)], [(3, 1), (2, 4)], [(2, 2), (3, 4)]])

    def test_double_names(self):
        one = Service(["a", "b", "c"], [[(0, 0)] * 3])
        self.raised(DoubleName, "c", side, one, Service(["x", "c", "a"], [[(0, 0)] * 3]))
        self.raised(DoubleName, "a", side, one, one)
        self.assertEqual(one, Service(["a", "b", "c"], [[(0, 0)] * 3]))

    def test_great_sides(self):
        one = Service(list("abcdefg"), [[((state + 1) % 10, 10 ** 19)] * 7 for state in range(10)])
        other = Service(list("hijkl"), [[((state + 1) % 6, state)] * 5 for state in range(6)])
        both = side(one, other)
        self.assertEqual((len(both), len(both.calls)), (60, 12))
        self.assertEqual(both.run(["h", "a"] * 20)[0][:4], [0, 10 ** 19, 1, 10 ** 19])
        self.assertEqual((len(reduced(both)), side(one, other)), (6, both))

    def test_a_side_may_be_put_beside_another(self):
        made = [Service([name], [[(1, 0)], [(0, 1)]]) for name in "abc"]
        self.assertEqual(len(side(side(made[0], made[1]), made[2])), 8)


class Reduced(WithErrors):
    def test_same_answers_with_the_fewest_states(self):
        source = random.Random(4)
        for _ in range(150):
            names, table = some_service(source, 5, 3)
            one = Service(names, table)
            less = reduced(one)
            rows = [list(row) for length in range(5) for row in product(names, repeat=length)]
            self.assertEqual([one.run(row)[0] for row in rows], [less.run(row)[0] for row in rows])
            told = {repr([one.run(row, state)[0] for row in rows]) for state in range(len(one))}
            self.assertEqual(len(less), len(told))
            self.assertEqual((less.calls, reduced(less)), (names, less))

    def test_states_that_differ_late(self):
        table = [[(state + 1, 0)] for state in range(24)] + [[(24, 1)]]
        self.assertEqual(reduced(Service(["a"], table)).table, table)
        table = [[((state + 1) % 24, state % 3)] for state in range(24)]
        self.assertEqual(reduced(Service(["a"], table)).table, [[(1, 0)], [(2, 1)], [(0, 2)]])

    def test_none_and_0_are_unlike_answers(self):
        one = Service(["a"], [[(1, 0)], [(0, None)]])
        self.assertEqual(reduced(service=one), one)

    def test_one_state(self):
        table = [[(1, 7), (2, None)], [(2, 7), (0, None)], [(1, 7), (1, None)]]
        self.assertEqual(reduced(Service(["a", "b"], table)).table, [[(0, 7), (0, None)]])

    def test_only_states_that_come_about_count(self):
        self.assertEqual(len(reduced(Service(["a"], [[(0, 0)], [(0, 1)]]))), 1)

    def test_great_answers(self):
        table = [[(1, 10 ** 19)], [(2, 10 ** 19 + 1)], [(0, 10 ** 19)], [(0, 0)]]
        self.assertEqual(len(reduced(Service(["a"], table))), 3)
