import copy
import random
import unittest
from itertools import product

from anycut.errors import UnknownCall
from anycut.maps import all_maps, do_same, exchanges, idle, least_row, led, map_of, settling
from anycut.services import Service, reduced, side
from plain import NAMES, service_of, singly, some_service, stand_alone
from test_services import WithErrors, flag

# All even ways to turn five states: 60 maps, by three calls.
TURNS = Service(["a", "b", "c"], [
    [(onward, None) for onward in row] for row in [(1, 2, 3), (2, 3, 0), (3, 4, 2), (4, 0, 1), (0, 1, 4)]])


def plain_map(names, table, row):
    """States behind a row, from each state of a table."""
    return tuple(singly(names, table, row, state)[1] for state in range(len(table)))


def plain_firsts(names, table, most):
    """First row for each map, and a length of which no row has a new one; None if there are too many rows."""
    firsts, length, before = {}, 0, -1
    while before < len(firsts):
        before = len(firsts)
        if len(names) ** length > most:
            return None
        for row in product(names, repeat=length):
            firsts.setdefault(plain_map(names, table, row), list(row))
        length += 1
    return firsts, length - 1


def plain_exchanges(names, table, firsts, most):
    """Exchanges by their definition, of rows of at most so many calls."""
    def first(row):
        return firsts[plain_map(names, table, row)]

    told = []
    for length in range(most + 1):
        for calls in product(names, repeat=length):
            row = list(calls)
            parts = [row[at:end] for end in range(length + 1) for at in range(end + 1) if end - at < length]
            if first(row) != row and all(first(part) == part for part in parts):
                told.append((row, first(row)))
    return told


def plain_led(swaps, row):
    """Rows that come about by a list of exchanges."""
    told = [row]
    while True:
        ends = [
            (end, old, new)
            for end in range(len(row) + 1)
            for old, new in swaps
            if end >= len(old) and row[end - len(old):end] == old
        ]
        if not ends:
            return told
        end, old, new = ends[0]
        # No row of an exchange is a part of another one, so only one ends there.
        assert len([each for each in ends if each[0] == end]) == 1
        row = row[:end - len(old)] + new + row[end:]
        told.append(row)


class Maps(WithErrors):
    def test_map_of(self):
        self.assertEqual(map_of(flag(), []), [0, 1])
        self.assertEqual(map_of(service=flag(), row=["on"]), [1, 1])
        self.assertEqual(map_of(flag(), ["look"] * 40), [0, 1])
        self.assertEqual(map_of(TURNS, ["a"]), [1, 2, 3, 4, 0])
        # The first call of a row is done first.
        self.assertEqual(map_of(TURNS, ["a", "c"]), [0, 2, 1, 4, 3])

    def test_map_of_states_that_come_about_in_the_order_of_the_table(self):
        one = Service(["a", "b"], [[(2, 0), (0, 0)], [(1, 0), (1, 0)], [(3, 0), (0, 0)], [(3, 0), (2, 0)]])
        self.assertEqual(map_of(one, ["a"]), [1, 2, 2])
        self.assertEqual(map_of(one, ["a", "b"]), [0, 1, 1])
        self.assertEqual(all_maps(one), [
            [0, 0, 0], [0, 0, 1], [0, 1, 1], [0, 1, 2], [1, 1, 1], [1, 1, 2], [1, 2, 2], [2, 2, 2]])

    def test_map_of_great_services(self):
        names = list(NAMES[:5])
        one = Service(names, [[((state * at + 1) % 5, 1000) for at in range(5)] for state in range(5)])
        for length in [0, 1, 7, 40]:
            row = [names[(at * 3) % 5] for at in range(length)]
            self.assertEqual(map_of(one, row), list(plain_map(names, one.table, row)))
        turns = Service(["a"], [[((state + 1) % 10, 0)] for state in range(10)])
        both = side(turns, Service(["b"], [[((state + 1) % 6, 0)] for state in range(6)]))
        self.assertEqual(sorted(map_of(both, ["a", "b"] * 20)), list(range(60)))
        self.assertEqual((settling(both), idle(both)), ([], []))

    def test_all_maps(self):
        self.assertEqual(all_maps(service=flag()), [[0, 0], [0, 1], [1, 1]])
        self.assertEqual(all_maps(Service(["a", "b"], [[(0, 1), (0, 2)]])), [[0]])
        told = all_maps(TURNS)
        self.assertEqual((len(told), told, told[0]), (60, sorted(told), [0, 1, 2, 3, 4]))

    def test_least_row(self):
        self.assertEqual(least_row(flag(), []), [])
        self.assertEqual(least_row(flag(), ["look"] * 40), [])
        self.assertEqual(least_row(service=flag(), row=["on", "look", "off"] * 13), ["off"])
        # Of two calls that do the same the one with the lesser index, whatever their names.
        one = Service(["z", "a"], [[(1, 0), (1, 1)], [(1, 0), (1, 1)]])
        self.assertEqual([least_row(one, row) for row in [["a"], ["z", "a"], ["a", "z"]]], [["z"]] * 3)
        # A shorter row comes ahead of one with lesser calls.
        two = Service(["a", "b"], [[(1, 0), (2, 0)], [(2, 0), (0, 0)], [(0, 0), (1, 0)]])
        self.assertEqual(least_row(two, ["a", "a"]), ["b"])

    def test_do_same(self):
        self.assertIs(do_same(flag(), ["on", "off"], ["off", "off", "look"]), True)
        self.assertIs(do_same(service=flag(), one=["on"], other=["off"]), False)
        self.assertIs(do_same(flag(), [], []), True)
        # Answers do not count.
        one = Service(["a", "b"], [[(0, 1), (0, 2)]])
        self.assertIs(do_same(one, ["a"], ["b", "b"]), True)
        # A state that never comes about does not count either.
        two = Service(["a", "b"], [[(0, 0), (0, 0)], [(0, 0), (1, 0)]])
        self.assertIs(do_same(two, ["a"], ["b"]), True)

    def test_settling_and_idle(self):
        self.assertEqual(settling(service=flag()), ["off", "on"])
        self.assertEqual(idle(service=flag()), ["look"])
        self.assertEqual((settling(TURNS), idle(TURNS)), ([], []))
        table = [[(1, 0), (0, 0), (1, 0), (0, 1), (1, 2)], [(1, 0), (1, 0), (0, 0), (1, 2), (1, 3)]]
        one = Service(["z", "y", "x", "w", "v"], table)
        self.assertEqual((settling(one), idle(one)), (["z", "v"], ["y", "w"]))

    def test_one_state_alone(self):
        table = [[(0, 1), (0, 2)], [(0, 0), (1, 0)]]
        for one in [Service(["a", "b"], table[:1]), Service(["a", "b"], table)]:
            self.assertEqual((settling(one), idle(one)), ([], ["a", "b"]))
            self.assertEqual((map_of(one, ["a"]), least_row(one, ["a", "b"])), ([0], []))
            self.assertEqual(exchanges(one), [(["a"], []), (["b"], [])])
            self.assertEqual(led(one, ["b", "a"]), [["b", "a"], ["a"], []])

    def test_settling_and_idle_of_states_that_come_about(self):
        one = Service(["a", "b"], [[(1, 0), (0, 0)], [(1, 0), (1, 0)], [(2, 0), (0, 0)]])
        self.assertEqual((settling(one), idle(one)), (["a"], ["b"]))

    def test_unknown_calls(self):
        for asked in [map_of, least_row, led]:
            self.raised(UnknownCall, "of", asked, flag(), ["on", "of", "no"])
            self.raised(UnknownCall, "", asked, flag(), [""])
        self.raised(UnknownCall, "of", do_same, flag(), ["on", "of", "no"], ["no"])
        self.raised(UnknownCall, "no", do_same, flag(), ["on"], ["no", "of"])
        self.raised(UnknownCall, "of", led, Service(["a"], [[(0, 0)]]), ["a", "of"])

    def test_nothing_is_changed_or_shared(self):
        one, row, other = flag(), ["on", "look", "off"], ["look"]
        kept = copy.deepcopy((row, other))
        self.raised(UnknownCall, "no", led, one, ["on", "no"])
        for asked in [
            lambda: map_of(one, row), lambda: all_maps(one), lambda: least_row(one, row), lambda: exchanges(one),
            lambda: led(one, row), lambda: settling(one), lambda: idle(one), lambda: led(one, []),
            lambda: exchanges(TURNS), lambda: led(one, other), lambda: least_row(one, ["off"]),
        ]:
            told, again = asked(), asked()
            self.assertEqual(told, again)
            self.assertTrue(stand_alone(told, again, row, other))
            told.clear()
            self.assertEqual(asked(), again)
        do_same(one, row, other)
        self.assertEqual((row, other, one), kept + (flag(),))


class Exchanges(unittest.TestCase):
    def test_closed_lists(self):
        # A call that turns three states: nothing but the whole turn is exchanged.
        turn = Service(["a"], [[(1, 0)], [(2, 0)], [(0, 0)]])
        self.assertEqual(exchanges(turn), [(["a", "a", "a"], [])])
        self.assertEqual(exchanges(service=Service(["a", "b"], [[(1, 0), (0, 0)], [(1, 0), (0, 0)]])), [
            (["a", "a"], ["a"]), (["a", "b"], ["b"]), (["b", "a"], ["a"]), (["b", "b"], ["b"])])
        # A call that does what two others do: its own row is exchanged, and none that contains it.
        two = Service(["a", "b"], [[(1, 0), (2, 0)], [(2, 0), (0, 0)], [(0, 0), (1, 0)]])
        self.assertEqual(exchanges(two), [
            (["a", "a"], ["b"]), (["a", "b"], []), (["b", "a"], []), (["b", "b"], ["a"])])

    def test_the_part_that_ends_first(self):
        one = Service(["a", "b", "c"], [[(1, 0), (0, 0), (0, 0)], [(0, 0), (0, 0), (1, 0)]])
        self.assertEqual(led(service=one, row=["b", "c", "a", "a", "c"]), [
            ["b", "c", "a", "a", "c"], ["b", "a", "a", "c"], ["b", "c"], ["b"]])
        self.assertEqual(led(one, ["a", "b", "a", "a"]), [["a", "b", "a", "a"], ["b", "a", "a"], ["b"]])
        self.assertEqual(led(one, ["b", "a"]), [["b", "a"]])
        self.assertEqual(led(one, []), [[]])

    def test_against_a_plain_search(self):
        source = random.Random(21)
        held = 0
        while held < 250:
            one = service_of(some_service(source, 4, 4))
            names, table = one.calls, one.table
            found = plain_firsts(names, table, 800)
            if found is None:
                continue
            firsts, most = found
            held += 1
            self.assertEqual(all_maps(one), [list(each) for each in sorted(firsts)])
            swaps = plain_exchanges(names, table, firsts, most)
            self.assertEqual(exchanges(one), swaps, table)
            for length in [0, 1, 2, 3, 5, 12]:
                row = [source.choice(names) for _ in range(length)]
                self.assertEqual(map_of(one, row), list(plain_map(names, table, row)))
                self.assertEqual(least_row(one, row), firsts[plain_map(names, table, row)])
                self.assertEqual(led(one, row), plain_led(swaps, row))
                other = [source.choice(names) for _ in range(source.randrange(4))]
                same = plain_map(names, table, row) == plain_map(names, table, other)
                self.assertIs(do_same(one, row, other), same)

    def test_all_short_rows_of_small_services(self):
        # Each service with two states and two calls.
        for states in product([0, 1], repeat=4):
            one = Service(["a", "b"], [[(states[0], 0), (states[1], 1)], [(states[2], 2), (states[3], None)]])
            firsts, most = plain_firsts(one.calls, one.table, 800)
            swaps = plain_exchanges(one.calls, one.table, firsts, most + 1)
            self.assertEqual(exchanges(one), swaps)
            for row in [list(row) for length in range(5) for row in product("ab", repeat=length)]:
                self.assertEqual(least_row(one, row), firsts[plain_map(one.calls, one.table, row)])
                self.assertEqual(led(one, row), plain_led(swaps, row))

    def test_led_to_the_least_row_with_many_maps(self):
        source = random.Random(22)
        for _ in range(10):
            row = [source.choice("abc") for _ in range(40)]
            told = led(TURNS, row)
            self.assertEqual((told[0], told[-1]), (row, least_row(TURNS, row)))
            self.assertEqual({tuple(map_of(TURNS, each)) for each in told}, {tuple(map_of(TURNS, row))})
        parts = [old for old, _ in exchanges(TURNS)]
        self.assertEqual(parts, sorted(parts, key=lambda row: (len(row), row)))

    def test_two_rows_do_the_same_if_they_are_led_to_the_same_row(self):
        source = random.Random(23)
        for _ in range(60):
            one = service_of(some_service(source, 3, 3))
            rows = [[source.choice(one.calls) for _ in range(source.randrange(9))] for _ in range(6)]
            for row in rows:
                for other in rows:
                    self.assertIs(do_same(one, row, other), led(one, row)[-1] == led(one, other)[-1])

    def test_services_that_are_returned_may_be_passed_on(self):
        one = side(reduced(flag()), Service(["a"], [[(1, 0)], [(1, 0)]]))
        self.assertEqual(len(all_maps(one)), 6)
        self.assertEqual((settling(one), idle(one)), ([], ["look"]))
        self.assertEqual(led(one, ["a", "on", "off", "a"]), [
            ["a", "on", "off", "a"], ["on", "a", "off", "a"], ["on", "off", "a", "a"], ["off", "a", "a"], ["off", "a"]])
