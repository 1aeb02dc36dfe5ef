import random
import re
import unittest

from anycut.cuts import may_change
from anycut.desks import Desk
from anycut.errors import Unreadable
from anycut.readings import read_rule, read_service
from anycut.rules import Rule
from anycut.services import Service, reduced, side
from anycut.texts import show_rule, show_service
from plain import NAMES, made, service_of, some_rule, some_service
from test_services import WithErrors, flag

NAME = "[a-z]{1,8}"
NUMBER = "(?:0|-?[1-9][0-9]{0,19})"
STEP = "(?:0|[1-9][0-9]{0,2})/(?:-|" + NUMBER + ")"
SERVICE = re.compile(f"{NAME}(?: {NAME})*(?:; {STEP}(?: {STEP})*)+")
RULE = re.compile(
    f"(?:(early(?: {NAME})+)(?:; |$))?(?:(keyed(?: {NAME}={NAME})+)(?:; |$))?(ranks(?: {NAME}={NUMBER})+)?")
SIGNS = [chr(code) for code in range(32, 127) if chr(code) != "%"]
WIDE = 10 ** 20 - 1


def has_service(text):
    """Tell by a plain reading whether a service has a text."""
    if not SERVICE.fullmatch(text):
        return False
    head, *rows = text.split("; ")
    names, last = head.split(), 0
    for state, row in enumerate(rows):
        steps = [int(step.split("/")[0]) for step in row.split()]
        if state > last or len(steps) != len(names) or max(steps) >= len(rows):
            return False
        for onward in steps:
            if onward > last + 1:
                return False
            last = max(last, onward)
    return len(set(names)) == len(names) and last == len(rows) - 1


def has_rule(text):
    """Tell by a plain reading whether a rule has a text."""
    found = RULE.fullmatch(text)
    if text == "plain" or not found or not text or text.endswith("; "):
        return text == "plain"
    for part in found.groups():
        names = [word.split("=")[0] for word in (part or "").split()[1:]]
        if names != sorted(set(names)):
            return False
    return "=0" not in text


def changed(text):
    """All texts with one sign put for another one, put in, or left out."""
    told = [text[:at] + text[at + 1:] for at in range(len(text))]
    for sign in SIGNS:
        told += [text[:at] + sign + text[at + 1:] for at in range(len(text))]
        told += [text[:at] + sign + text[at:] for at in range(len(text) + 1)]
    return told


class Texts(WithErrors):
    def refused(self, read, *texts):
        for text in texts:
            self.raised(Unreadable, text, read, text)

    def test_show_service(self):
        self.assertEqual(show_service(flag()), "off on look; 0/- 1/- 0/0; 0/- 1/- 1/1")
        self.assertEqual(show_service(service=Service(["a"], [[(0, -1000)]])), "a; 0/-1000")
        # The states of the table, not those that were handed in.
        one = Service(["a", "b"], [[(2, 1), (0, -2)], [(0, 0), (1, 1)], [(2, None), (0, 0)]])
        self.assertEqual(show_service(one), "a b; 1/1 0/-2; 1/- 0/0")
        self.assertEqual(show_service(Service(["a"], [[(0, WIDE)]])), "a; 0/" + "9" * 20)

    def test_show_rule(self):
        self.assertEqual(show_rule(Rule()), "plain")
        self.assertEqual(show_rule(rule=Rule(["b", "a"])), "early a b")
        self.assertEqual(show_rule(Rule(keyed={"b": "x", "a": "y"})), "keyed a=y b=x")
        self.assertEqual(show_rule(Rule(ranks={"c": WIDE, "b": 0, "a": -WIDE})), f"ranks a=-{WIDE} c={WIDE}")
        self.assertEqual(show_rule(Rule(["a"], {"a": "a"}, {"a": 1})), "early a; keyed a=a; ranks a=1")
        self.assertEqual(show_rule(Rule(["a"], ranks={"a": 1})), "early a; ranks a=1")
        self.assertEqual(show_rule(Rule(["plain", "keyed"], {"early": "z"})), "early keyed plain; keyed early=z")

    def test_each_text_that_is_shown_is_read_back(self):
        source = random.Random(41)
        for _ in range(300):
            one = service_of(some_service(source, 8, 6))
            self.assertEqual(read_service(show_service(one)), one)
            self.assertTrue(has_service(show_service(one)))
            rule = made(some_rule(source, list(NAMES), ["x", "keyed", "plain"], [1, -1, WIDE, -WIDE, 0, 10]))
            self.assertEqual(read_rule(show_rule(rule)), rule)
            self.assertTrue(has_rule(show_rule(rule)))

    def test_texts_with_one_sign_changed(self):
        services = ["off on; 0/- 1/-10; 2/0 1/12; 0/3 0/-", "a; 0/-", "a b; 1/1 0/-; 1/-1 0/0", "abcdefgh; 0/10"]
        read = sum([self.held(text, read_service, show_service, has_service) for text in services])
        rules = ["plain", "early a b; keyed a=x c=y; ranks a=-1 b=20", "early off", "keyed a=b", "ranks a=10"]
        read += sum([self.held(text, read_rule, show_rule, has_rule) for text in rules])
        self.assertGreater(read, 2000)

    def held(self, text, read, show, has):
        """How many of the texts with one sign changed are read, as those that show them."""
        self.assertEqual(show(read(text)), text)
        count = 0
        for other in changed(text):
            if has(other):
                count += 1
                self.assertEqual(show(read(text=other)), other)
            else:
                self.refused(read, other)
        return count

    def test_no_service_has_such_a_text(self):
        self.refused(read_service, "", "a", "a;", "a; ", "; 0/0", "; ", ";", " ", "a b", "a  b; 0/0 0/0", " a; 0/0",
                     "a ; 0/0", "a; 0/0 ", "a;  0/0", "a;0/0", "a; 0/0;", "a; 0/0; ", "0/0", "a; a; 0/0", "a; 0/0\n",
                     "a; 0/0 0/0", "a b; 0/0", "a; 0/0; 0/0", "a; 1/0", "a; 0", "a; /0", "a; 0/", "a; 0/0/0", "a; 0//0")
        # Names.
        self.refused(read_service, "A; 0/0", "abcdefghi; 0/0", "a a; 0/0 0/0", "a1; 0/0", "a; 0/a",
                     "a b a; 0/0 0/0 0/0")
        # Numbers.
        self.refused(read_service, "a; 00/0", "a; -0/0", "a; 0/00", "a; 0/-0", "a; 0/01", "a; 0/-01", "a; 0/+1",
                     "a; 0/--1", "a; 0/1-", "a; 0/1_0", "a; 0/1.0", "a; 0/None", "a; -/-", "a; -1/0", "a; 0000/0",
                     "a; 0/" + "9" * 21, "a; 0/-" + "9" * 21, "a; 0/" + "0" * 21, "a; +0/0", "a; 0/ 1", "a; 0/1 ")
        # States that are not those of the table.
        self.refused(read_service, "a; 0/0; 1/0", "a b; 2/0 1/0; 0/0 0/0; 0/0 0/0", "a; 2/0; 0/0; 1/0",
                     "a b; 0/0 1/0; 3/0 0/0; 0/0 0/0; 2/0 0/0")

    def test_no_rule_has_such_a_text(self):
        self.refused(read_rule, "", " ", "plain ", " plain", "Plain", "plain; early a", "early a; plain",
                     "plain; plain", "plain a", "early", "keyed", "ranks", "early ", "early; keyed a=b",
                     "early a; keyed", "late a", "early a;", "early a; ", "; early a", "early a;keyed a=b",
                     "early a;  keyed a=b", "early  a", "early a\n", "a", "early a ; keyed a=b")
        # Parts that stand twice or in another sequence.
        self.refused(read_rule, "early a; early b", "early a; early a", "keyed a=b; early a", "ranks a=1; keyed a=b",
                     "ranks a=1; early a", "keyed a=b; keyed c=d", "ranks a=1; ranks b=1",
                     "early a; keyed a=b; early c")
        # Names that are none, stand twice or do not ascend.
        self.refused(read_rule, "early A", "early abcdefghi", "early a=b", "early b a", "early a a", "keyed b=x a=x",
                     "keyed a=x a=x", "keyed a=x a=y", "keyed a", "keyed a=", "keyed =a", "keyed a=b=c", "keyed A=b",
                     "keyed a=B", "keyed a=abcdefghi", "keyed a=1", "ranks b=1 a=1", "ranks a=1 a=1", "ranks a=1 a=2",
                     "ranks =1", "ranks A=1", "ranks abcdefghi=1", "keyed a==b", "keyed a= b", "early a, b")
        # Ranks.
        self.refused(read_rule, "ranks a=0", "ranks a=-0", "ranks a=01", "ranks a=-01", "ranks a=+1", "ranks a=",
                     "ranks a", "ranks a=-", "ranks a=1=1", "ranks a=x", "ranks a=--1", "ranks a=1_0",
                     "ranks a=" + "1" * 21, "ranks a=-" + "1" * 21, "ranks a=1 b=0")

    def test_numbers_at_the_bounds(self):
        for number in [0, 1, -1, 10, WIDE, -WIDE, 10 ** 19]:
            self.assertEqual(read_service(f"a; 0/{number}"), Service(["a"], [[(0, number)]]))
        for rank in [1, -1, 100, WIDE, -WIDE]:
            self.assertEqual(read_rule(text=f"ranks a={rank}"), Rule(ranks={"a": rank}))
        self.assertIs(type(read_service("a; 0/1").run(["a"])[0][0]), int)

    def test_greater_than_the_bounds(self):
        # 370 states, in a text of nearly 3000 characters.
        many = 370
        one = Service(["a"], [[((state + 1) % many, None)] for state in range(many)])
        text = show_service(one)
        self.assertEqual((len(read_service(text)), read_service(text) == one), (many, True))
        self.refused(read_service, text.replace("; 100/-", "; 101/-"))
        # States of four digits, in a text that is too long.
        many = 1001
        self.refused(read_service, show_service(Service(["a"], [[((state + 1) % many, 0)] for state in range(many)])))
        # As many calls, and as many names in a rule.
        names = [left + right for left in NAMES for right in "abcdefghijklmnopqrstuvwxyz"]
        wide = Service(names, [[(0, 0)] * len(names)])
        self.assertEqual(read_service(show_service(wide)), wide)
        rule = Rule(names, {name: name for name in names[:150]}, {name: at for at, name in enumerate(names[:90])})
        self.assertEqual(read_rule(show_rule(rule)), rule)
        both = side(service_of((["a", "b"], [[((state + 1) % 10, 1), (0, 2)] for state in range(10)])),
                    service_of((["c"], [[((state + 1) % 6, WIDE)] for state in range(6)])))
        self.assertEqual(read_service(show_service(both)), both)

    def test_what_is_read_may_be_passed_on(self):
        one, rule = read_service(show_service(flag())), read_rule("keyed on=k; ranks look=1")
        self.assertEqual(rule.batch(one, ["on", "look", "on"]), ([None, 1, None], 1))
        desk = Desk(one, rule, 2)
        self.assertEqual([desk("on"), desk("on"), desk.is_true], [None, [None, None], True])
        self.assertEqual((reduced(one), may_change(one)), (flag(), []))
        # What is shown is not changed by it.
        show_service(one)
        show_rule(rule)
        self.assertEqual((one, rule), (flag(), Rule(keyed={"on": "k"}, ranks={"look": 1})))
