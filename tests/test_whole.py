"""What holds over the whole program: what one function returns may be passed on to every other one."""

import random
import unittest

from anycut.cuts import (
    first_unlike, is_right, is_right_cut, least_left_out, may_change, play, right_length, wrong_cut,
)
from anycut.desks import Desk, SafeDesk
from anycut.maps import all_maps, do_same, exchanges, idle, least_row, led, map_of, settling
from anycut.readings import read_rule, read_service
from anycut.rules import Rule
from anycut.services import Service, reduced, side
from anycut.texts import show_rule, show_service
from plain import lists_within, made, service_of, some_rule, some_service, stand_alone


def desk_told(kind, service, rule, row):
    """What a desk tells of a row."""
    desk = kind(service, rule, 3)
    told = [desk(name) for name in row]
    told += [desk.state, desk.waiting, desk.cut, desk.answers, desk.is_true, len(desk)]
    return told + [desk.undo() for _ in row[2:]] + [desk.waiting, desk.cut]


def all_told(service, rule, other, row):
    """What all functions tell of a service, two rules and a row that is not empty."""
    cut = [row[:1], row]
    return [
        service.calls, service.table, len(service), [service[name] for name in service.calls], service.run(row),
        rule.early, rule.keyed, rule.ranks, rule.order(row), rule.batch(service, row), rule.without(row[0]).early,
        play(service, rule, cut), is_right_cut(service, rule, cut), wrong_cut(service, rule), is_right(service, rule),
        right_length(service, rule), first_unlike(service, rule, other), least_left_out(service, rule),
        may_change(service), map_of(service, row), all_maps(service), least_row(service, row),
        do_same(service, row, row[1:]), exchanges(service), led(service, row), settling(service), idle(service),
        desk_told(Desk, service, rule, row), desk_told(SafeDesk, service, rule, row),
        show_service(service), show_rule(rule), show_service(reduced(service)),
    ]


class Whole(unittest.TestCase):
    def pairs(self):
        source = random.Random(51)
        for _ in range(120):
            one = service_of(some_service(source, 3, 3))
            rule = some_rule(source, one.calls, ["x"], [1])
            yield source, one, rule

    def test_what_is_returned_is_as_good_as_what_was_made(self):
        for source, one, rule in self.pairs():
            row = [source.choice(one.calls) for _ in range(source.randint(1, 8))]
            other = Rule(one.calls[:1])
            told = all_told(one, made(rule), other, row)
            less = reduced(one)
            same = [
                (Service(one.calls, one.table), made(rule).without("z")),
                (read_service(show_service(one)), read_rule(show_rule(made(rule)))),
                (Service(one.calls, one.table + [one.table[0]]), made(rule)),
            ]
            for service, rules in same:
                self.assertEqual(all_told(service, rules, read_rule(show_rule(other)), row), told)
            again = Service(less.calls, less.table)
            self.assertEqual(all_told(less, made(rule), other, row), all_told(again, made(rule), other, row))

    def test_nothing_is_changed_and_each_list_stands_alone(self):
        for source, one, rule in self.pairs():
            row = [source.choice(one.calls) for _ in range(source.randint(1, 8))]
            kept, shown, rules = list(row), show_service(one), made(rule)
            told = all_told(one, rules, Rule(), row)
            again = all_told(one, rules, Rule(), row)
            self.assertTrue(stand_alone(told, again, row))
            for each in lists_within(told)[1:]:
                each.append("more")
            self.assertEqual((row, show_service(one), rules), (kept, shown, made(rule)))
            self.assertEqual(all_told(one, rules, Rule(), row), again)

    def test_sides_within_the_bounds(self):
        one = side(Service(["a"], [[(1, 0)], [(0, 1)]]), Service(["b"], [[(0, 5)]]))
        told = all_told(one, Rule(["b"]), Rule(["a"]), ["a", "b", "a"])
        self.assertEqual(told, all_told(
            Service(["a", "b"], [[(1, 0), (0, 5)], [(0, 1), (1, 5)]]), Rule(["b"]), Rule(["a"]), ["a", "b", "a"]))
        self.assertTrue(is_right(one, Rule(["b"])))

    def test_returned_rows_and_batches(self):
        one, rule = Service(["a", "b"], [[(1, 0), (0, 0)], [(1, 1), (0, 1)]]), Rule(["b"])
        row, batch = wrong_cut(one, rule)
        self.assertFalse(is_right_cut(one, rule, [row, batch] if row else [batch]))
        self.assertEqual(rule.batch(one, least_row(one, ["a", "b", "a"])), ([0], 1))
        desk = Desk(one, rule, 2)
        for name in ["a", "b", "b", "a"]:
            desk(name)
        self.assertEqual([told[0] for told in play(one, rule, desk.cut)], [desk.answers[:2], desk.answers[2:]])
