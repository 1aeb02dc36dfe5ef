import copy
import random
import unittest
from itertools import combinations, product

from anycut.cuts import (
    first_unlike, is_right, is_right_cut, least_left_out, may_change, play, right_length, wrong_cut,
)
from anycut.errors import EmptyBatch, UnknownCall
from anycut.rules import Rule
from anycut.services import Service, side
from plain import (
    NAMES, by_rule, least_unlike, least_wrong_length, made, service_of, singly, some_rule, some_service, stand_alone,
    without,
)
from test_services import WithErrors, flag

PLAIN = ([], {}, {})
# Kinds of rules that may be asked whether they are right: with their keys and their ranks.
KINDS = [(["x", "y"], []), (["x"], [1]), (["x"], [-1]), ([], [3]), ([], [])]


class Playing(WithErrors):
    def test_batches_one_after_the_other(self):
        ahead = Rule(["look"])
        self.assertEqual(play(flag(), ahead, []), [])
        self.assertEqual(
            play(service=flag(), rule=ahead, cut=[["on", "look"], ["look"], ["off", "look"]]),
            [([None, 0], 1), ([1], 1), ([None, 1], 0)])

    def test_is_right_cut(self):
        ahead = Rule(["look"])
        self.assertIs(is_right_cut(flag(), ahead, []), True)
        self.assertIs(is_right_cut(flag(), ahead, [["on"], ["look"]]), True)
        self.assertIs(is_right_cut(service=flag(), rule=ahead, cut=[["on", "look"]]), False)
        self.assertIs(is_right_cut(flag(), ahead, [["on"], ["on", "look"]]), True)

    def test_a_wrong_state_behind_a_batch_counts(self):
        # The early call changes nothing, and nothing answers: only the states differ.
        one = Service(["go", "back"], [[(1, None), (0, None)], [(1, None), (0, None)]])
        self.assertFalse(is_right_cut(one, Rule(["go"]), [["go"]]))
        self.assertFalse(is_right_cut(one, Rule(["go"]), [["go"], ["back"]]))
        self.assertTrue(is_right_cut(one, Rule(["go"]), [["back"]]))

    def test_as_the_document_says(self):
        source = random.Random(6)
        for _ in range(300):
            names, table = some_service(source, 5, 5)
            one = Service(names, table)
            rule = some_rule(source, list(NAMES[:6]), ["x", "y"], [-1, 1, 2])
            cut = [[source.choice(names) for _ in range(source.randint(1, 4))] for _ in range(source.randint(0, 5))]
            state, single, told, right = 0, 0, [], True
            for batch in cut:
                told.append(by_rule(names, one.table, rule, batch, state))
                expected = singly(names, one.table, batch, single)
                right = right and told[-1] == expected
                state, single = told[-1][1], expected[1]
            self.assertEqual(play(one, made(rule), cut), told)
            self.assertIs(is_right_cut(one, made(rule), cut), right)

    def test_errors(self):
        for asked in [play, is_right_cut]:
            self.raised(EmptyBatch, 1, asked, flag(), Rule(), [["on"], [], []])
            self.raised(EmptyBatch, 0, asked, flag(), Rule(), [[], ["no"]])
            self.raised(UnknownCall, "no", asked, flag(), Rule(), [["on"], ["off", "no", "of"], ["of"]])
            self.raised(UnknownCall, "no", asked, flag(), Rule(["no"]), [["no"], []])
            # A batch that is wrong before an error does not keep the error back.
            self.raised(EmptyBatch, 1, asked, flag(), Rule(["look"]), [["on", "look"], []])

    def test_nothing_is_changed_or_shared(self):
        cut = [["on", "look"], ["look"]]
        kept = copy.deepcopy(cut)
        one, rule = flag(), Rule(["look"])
        told = play(one, rule, cut)
        is_right_cut(one, rule, cut)
        self.assertTrue(stand_alone(told, cut, play(one, rule, cut)))
        told[0][0].clear()
        self.assertEqual((cut, one, rule), (kept, flag(), Rule(["look"])))
        self.assertEqual(play(one, rule, cut), [([None, 0], 1), ([1], 1)])

    def test_great_services(self):
        one = Service(list("abcdefg"), [[((state + at) % 10, state) for at in range(7)] for state in range(10)])
        other = Service(list("hijkl"), [[((state + 1) % 6, None)] * 5 for state in range(6)])
        both = side(one, other)
        rule = Rule(["a"], {"h": "x", "i": "x"}, {"b": 1})
        self.assertEqual(play(both, rule, [list("hbca")])[0][0], [None, 2, 0, 0])
        self.assertFalse(is_right_cut(both, rule, [list("hi"), list("bc") * 18]))
        self.assertTrue(is_right_cut(both, Rule(["a"]), [list("aa"), list("hijkl") * 7]))


class Searches(unittest.TestCase):
    """What is told of all rows and all batches, held against a plain search."""

    def check_wrong(self, pair, rule, most):
        names, table = pair
        one = service_of(pair)
        told = wrong_cut(one, made(rule))
        calls = most if told is None else len(told[0]) + len(told[1])
        self.assertEqual(told, least_unlike(names, table, rule, PLAIN, calls), (pair, rule))
        self.assertIs(is_right(one, made(rule)), told is None)
        length = right_length(one, made(rule))
        shortest = least_wrong_length(names, table, rule, 3)
        self.assertEqual(length, None if shortest is None else shortest - 1, (pair, rule))
        self.assertEqual(length is None, told is None)

    def test_wrong_cut_and_right_length(self):
        source = random.Random(7)
        for at in range(1200):
            pair = some_service(source, 3, 3 if at % 4 else 4)
            keys, ranks = KINDS[at % len(KINDS)]
            self.check_wrong(pair, some_rule(source, list(NAMES[:5]), keys, ranks), 4 if at % 4 else 3)

    def test_all_services_of_two_states_and_two_calls(self):
        steps = [(onward, answer) for onward in (0, 1) for answer in (None, 0)]
        rules = [
            (["a"], {}, {}), ([], {"a": "x"}, {}), ([], {"a": "x", "b": "x"}, {}), ([], {"a": "x", "b": "y"}, {}),
            ([], {}, {"a": 1}), ([], {"a": "x"}, {"a": 1}), (["b"], {"b": "x", "a": "x"}, {"b": 1}),
        ]
        for row in product(steps, repeat=2):
            for other in product(steps, repeat=2):
                for rule in rules:
                    self.check_wrong((["a", "b"], [list(row), list(other)]), rule, 4)

    def test_first_unlike(self):
        source = random.Random(8)
        longest = 0
        for at in range(1500):
            pair = some_service(source, 3, 3 if at % 4 else 4)
            names, table = pair
            one = some_rule(source, list(NAMES[:4]), ["x"], [1])
            other = some_rule(source, list(NAMES[:4]), ["x"], [source.choice([-1, 1])])
            # Rules that are nearly alike differ only for longer batches.
            if at % 3:
                other = (one[0], other[1] if at % 2 else one[1], other[2] if source.randrange(2) else one[2])
            told = first_unlike(service_of(pair), made(one), made(other))
            calls = (4 if len(names) < 4 else 3) if told is None else len(told[0]) + len(told[1])
            self.assertEqual(told, least_unlike(names, table, one, other, calls), (pair, one, other))
            longest = max(longest, 0 if told is None else calls)
        self.assertGreater(longest, 2)

    def test_least_left_out(self):
        source = random.Random(9)
        for at in range(500):
            names, table = some_service(source, 3, 3 if at % 3 else 4)
            rule = some_rule(source, list(NAMES[:5]), ["x"], [1] if at % 2 else [])
            least = []
            for many in range(len(names) + 1):
                for chosen in combinations(names, many):
                    right = least_wrong_length(names, table, without(rule, chosen), 3) is None
                    if right and not any(set(found) <= set(chosen) for found in least):
                        least.append(list(chosen))
            self.assertEqual(least_left_out(Service(names, table), made(rule)), least, (names, table, rule))

    def test_may_change(self):
        source = random.Random(10)
        for _ in range(300):
            names, table = some_service(source, 4, 5)
            one = Service(names, table)
            told = []
            for name, other in combinations(names, 2):
                alike = True
                for state in range(len(one)):
                    (first, second), behind = singly(names, one.table, [name, other], state)
                    (third, fourth), beyond = singly(names, one.table, [other, name], state)
                    alike = alike and (first, second, behind) == (fourth, third, beyond)
                if alike:
                    told.append((name, other))
            self.assertEqual(may_change(one), told)


class Cases(unittest.TestCase):
    """Single services and rules, with what the document says of them."""

    def test_a_service_that_is_never_wrong(self):
        one = Service(["a", "b"], [[(0, None), (0, None)]])
        for rule in [Rule(), Rule(["a"]), Rule(["a", "b"]), Rule(keyed={"a": "k", "b": "k"}), Rule(ranks={"a": 1})]:
            self.assertEqual((wrong_cut(one, rule), right_length(one, rule)), (None, None))
            self.assertIs(is_right(one, rule), True)
            self.assertEqual((least_left_out(one, rule), first_unlike(one, rule, Rule())), ([[]], None))
        self.assertEqual(may_change(one), [("a", "b")])

    def test_names_that_count_for_nothing(self):
        for rule in [
            Rule(["no"], {"no": "k", "nil": "k"}, {"no": 5}),
            Rule(keyed={"look": "k", "no": "k"}, ranks={"off": 2, "on": 2, "look": 2}),
        ]:
            told = wrong_cut(flag(), rule)
            self.assertEqual(told, None if rule.early else ([], ["look", "look"]))
        ahead = Rule(["look"], {"look": "k", "on": "k"}, {"look": 7})
        self.assertEqual(first_unlike(flag(), ahead, Rule(["look"], {"on": "l"})), None)
        self.assertEqual(least_left_out(flag(), Rule(["no"], ranks={"nil": 1})), [[]])

    def test_an_early_call_that_changes_the_state(self):
        rule = Rule(["on"])
        self.assertEqual((wrong_cut(flag(), rule), right_length(flag(), rule)), (([], ["on"]), 0))
        self.assertIs(is_right(flag(), rule), False)

    def test_a_state_that_never_comes_about_is_not_asked(self):
        table = [[(0, None), (0, 0)], [(0, None), (1, 1)]]
        self.assertTrue(is_right(Service(["a", "b"], table), Rule(["b"])))
        self.assertEqual(may_change(Service(["a", "b"], table)), [("a", "b")])

    def test_the_least_calls_come_before_the_shorter_batch(self):
        # A batch of two is wrong only from state 2, behind two calls; one of three is wrong at once.
        table = [[(1, None), (0, None)], [(1, None), (2, None)], [(0, None), (1, None)]]
        one, rule = Service(["a", "b"], table), Rule(keyed={"a": "k"})
        self.assertEqual(wrong_cut(one, rule), ([], ["a", "b", "a"]))
        self.assertEqual(right_length(one, rule), 1)
        # A batch of three is wrong only from state 2, behind two calls; one of four is wrong at once.
        one = Service(["a", "b"], [[(1, None), (0, None)], [(1, None), (2, None)], [(1, None), (0, 1)]])
        self.assertEqual(right_length(one, rule), 2)
        self.assertEqual(wrong_cut(one, rule), ([], ["a", "b", "b", "a"]))

    def test_with_as_many_calls_the_shorter_batch(self):
        # From state 0 a batch of three is wrong, behind one call one of two.
        one = Service(["a", "b"], [[(1, None), (0, None)], [(2, None), (1, None)], [(2, None), (2, 5)]])
        rule = Rule(["b"])
        self.assertEqual(wrong_cut(one, rule), (["a"], ["a", "b"]))
        self.assertEqual(rule.batch(one, ["a", "a", "b"]), ([None, None, None], 2))
        self.assertEqual(right_length(one, rule), 1)

    def test_the_first_row_to_a_wrong_state(self):
        # Both calls lead to a state in which the batch is wrong.
        table = [[(1, None), (2, None), (0, None)], [(1, None), (1, None), (0, None)],
                 [(2, None), (2, None), (0, None)]]
        one = Service(["b", "a", "z"], table)
        self.assertEqual(wrong_cut(one, Rule(["z"])), (["b"], ["z"]))

    def test_two_keys(self):
        # The calls a and b settle the state, c turns it.
        one = Service(["a", "b", "c"], [[(1, None), (0, None), (1, None)], [(1, None), (0, None), (0, None)]])
        self.assertEqual(wrong_cut(one, Rule(keyed={"a": "x", "b": "y"})), None)
        self.assertEqual(wrong_cut(one, Rule(keyed={"a": "x", "b": "x"})), None)
        self.assertEqual(wrong_cut(one, Rule(keyed={"a": "x", "c": "y"})), ([], ["c", "c"]))
        self.assertEqual(wrong_cut(one, Rule(keyed={"a": "x", "c": "x"})), ([], ["a", "c"]))

    def test_a_batch_of_four(self):
        # In no batch of three it shows that the rules skip other calls.
        one = Service(list("abcd"), [
            [(0, None), (0, 1), (0, None), (1, None)],
            [(1, None), (0, 1), (2, None), (1, None)],
            [(2, None), (0, 0), (1, None), (1, None)]])
        told = first_unlike(one, Rule(keyed={"d": "x"}), Rule(keyed={"a": "x"}))
        self.assertEqual(told, ([], ["d", "c", "b", "d"]))

    def test_first_unlike_is_the_same_both_ways(self):
        one, other = Rule(["look"]), Rule(ranks={"look": 1})
        self.assertEqual(first_unlike(service=flag(), one=one, other=other), ([], ["on", "look"]))
        self.assertEqual(first_unlike(flag(), other, one), ([], ["on", "look"]))
        self.assertEqual(first_unlike(flag(), one, one), None)

    def test_least_left_out_need_not_grow(self):
        # Without one of the ranks alone the rule is wrong, though it was right with both.
        one = Service(["a", "b", "c"], [[(1, None), (0, None), (0, None)], [(1, None), (0, None), (1, None)]])
        both = Rule(ranks={"a": 1, "b": 1})
        self.assertTrue(is_right(one, both))
        self.assertFalse(is_right(one, both.without("a")))
        self.assertEqual(least_left_out(one, both), [[]])

    def test_several_least_sets(self):
        # Each call alone may be skipped behind itself, but not behind the other one.
        one = Service(["b", "z", "a"], [[(2, None), (0, None), (1, None)], [(2, None), (1, None), (1, None)],
                                        [(2, None), (2, None), (2, None)]])
        rule = Rule(keyed={"a": "k", "b": "k"})
        self.assertEqual(least_left_out(service=one, rule=rule), [["b"], ["a"]])
        self.assertEqual(least_left_out(one, Rule(["z"], {"a": "k", "b": "k"})), [["b"], ["a"]])
        turn = Service(["a", "b"], [[(1, None), (0, None)], [(1, None), (0, None)]])
        self.assertEqual(least_left_out(turn, Rule(ranks={"b": 1})), [["b"]])
        swap = Service(["c", "a"], [[(1, 0), (0, 0)], [(0, 1), (1, 1)]])
        self.assertEqual(least_left_out(swap, Rule(["a", "c"])), [["c", "a"]])
        self.assertEqual(least_left_out(swap, Rule(["c"], {"a": "k"})), [["c", "a"]])

    def test_may_change_in_great_services(self):
        names = list(NAMES[:11])
        turns = [[((state + at) % 25, None) for at in range(11)] for state in range(25)]
        self.assertEqual(len(may_change(service=Service(names, turns))), 55)
        one = Service(list("abcdefg"), [[((state + 1) % 10, state)] * 7 for state in range(10)])
        other = Service(list("hijkl"), [[((state + 1) % 6, state)] * 5 for state in range(6)])
        self.assertEqual(may_change(side(one, other)), [(name, call) for name in "abcdefg" for call in "hijkl"])

    def test_told_lists_are_new(self):
        one, rule, last = flag(), Rule(["look"]), Rule(keyed={"off": "set", "on": "set"})
        for asked in [
            lambda: wrong_cut(one, rule), lambda: least_left_out(one, last), lambda: may_change(one),
            lambda: first_unlike(one, last, rule), lambda: least_left_out(one, Rule()),
        ]:
            told, again = asked(), asked()
            self.assertEqual(told, again)
            self.assertTrue(stand_alone(told, again))
        wrong_cut(one, rule)[1].clear()
        self.assertEqual((wrong_cut(one, rule), one, rule), (([], ["on", "look"]), flag(), Rule(["look"])))

    def test_arguments_by_name(self):
        rule = Rule(["look"])
        self.assertEqual(wrong_cut(service=flag(), rule=rule), ([], ["on", "look"]))
        self.assertEqual(right_length(service=flag(), rule=rule), 1)
        self.assertIs(is_right(service=flag(), rule=rule), False)
