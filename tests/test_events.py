import unittest
from itertools import permutations, product

from talkmost.errors import BadText
from talkmost.events import format_event, holds, parse_event
from talkmost.houses import parse_house

HOUSE = parse_house(
    "house states rain sun end "
    "hearer ann kinds shy bold acts stay go end "
    "hearer bob kinds calm acts go run ann end end"
)
KEPT = ("house", "states", "hearer", "kinds", "acts", "end", "state", "is", "does", "teller")
ALL = ["state sun", "ann is bold", "ann does stay", "bob is calm", "bob does ann"]
CONDITIONS = [("state", 1), ("is", 0, 1), ("does", 0, 0), ("is", 1, 0), ("does", 1, 2)]


class EventTestCase(unittest.TestCase):
    def refused(self, text, at):
        with self.assertRaises(BadText) as caught:
            parse_event(HOUSE, text)
        self.assertEqual(caught.exception.at, at, text)


class ParseTest(EventTestCase):
    def test_the_empty_event(self):
        self.assertEqual(parse_event(HOUSE, ""), [])
        self.assertEqual(parse_event(HOUSE, "    "), [])
        self.assertEqual(format_event(HOUSE, []), "")

    def test_each_kind_of_condition(self):
        for text, condition in zip(ALL, CONDITIONS):
            self.assertEqual(parse_event(HOUSE, text), [condition])
            self.assertEqual(format_event(HOUSE, [condition]), text)
        self.assertEqual(parse_event(HOUSE, "state rain"), [("state", 0)])
        self.assertEqual(parse_event(HOUSE, "bob does go"), [("does", 1, 0)])
        self.assertEqual(parse_event(HOUSE, "ann does go"), [("does", 0, 1)])

    def test_several_in_any_order(self):
        for order in permutations(range(5)):
            text = " ".join(ALL[at] for at in order)
            event = parse_event(HOUSE, text)
            self.assertEqual(event, [CONDITIONS[at] for at in order])
            self.assertEqual(format_event(HOUSE, event), text)

    def test_several_spaces(self):
        event = parse_event(HOUSE, "   bob   is  calm  state sun ")
        self.assertEqual(event, [("is", 1, 0), ("state", 1)])
        self.assertEqual(format_event(HOUSE, event), "bob is calm state sun")

    def test_arguments_stay(self):
        event = list(CONDITIONS)
        format_event(HOUSE, event), holds(event, 0, [0, 0], [0, 0])
        self.assertEqual(event, CONDITIONS)
        self.assertEqual(HOUSE.states, ["rain", "sun"])


class BadEventTest(EventTestCase):
    def test_a_second_condition_about_the_state(self):
        self.refused("state sun state sun", 2)
        self.refused("state sun ann is shy state rain", 5)

    def test_a_second_condition_about_a_kind_or_an_act(self):
        self.refused("ann is shy ann is bold", 4)
        self.refused("ann is shy ann is shy", 4)
        self.refused("ann does go ann does go", 4)
        self.refused("ann does go bob does go state sun bob does run", 9)

    def test_a_hearer_of_whom_all_is_said(self):
        self.refused("ann is shy ann does go ann is bold", 6)
        self.refused("bob does go bob is calm state sun bob", 8)
        self.refused(" ".join(ALL) + " state", 14)
        self.refused(" ".join(ALL) + " ann", 14)

    def test_a_wrong_first_word(self):
        for word in KEPT + ("eve", "sun", "shy", "go", "Ann", "-"):
            if word != "state":
                self.refused(word, 0)
                self.refused(f"bob is calm {word} is shy", 3)

    def test_a_wrong_second_word(self):
        for word in KEPT + ("ann", "shy", "go", "Is", "-"):
            if word not in ("is", "does"):
                self.refused(f"ann {word} shy", 1)

    def test_a_wrong_last_word(self):
        for word in KEPT + ("shy", "go", "ann", "snow"):
            self.refused(f"state {word}", 1)
        for word in KEPT + ("calm", "stay", "go", "rain", "ann", "snow"):
            self.refused(f"ann is {word}", 2)
        for word in KEPT + ("shy", "run", "ann", "rain", "snow"):
            self.refused(f"ann does {word}", 2)
        self.refused("bob is shy", 2)
        self.refused("bob does stay", 2)

    def test_a_text_cut_off(self):
        self.refused("ann", 1)
        self.refused("ann is", 2)
        self.refused("ann does", 2)
        self.refused("state", 1)
        self.refused("ann is shy state", 4)
        self.refused("ann is shy bob does ", 5)

    def test_only_spaces_separate_words(self):
        self.refused("state\tsun", 0)
        self.refused("state sun\n", 1)

    def test_the_first_wrong_word_counts(self):
        self.refused("ann was nobody", 1)
        self.refused("state snow state snow", 1)


class HoldsTest(unittest.TestCase):
    def test_true_exactly_where_all_conditions_hold(self):
        places = list(product(range(2), product(range(2), range(1)), product(range(2), range(3))))
        for marks in product((False, True), repeat=5):
            event = [condition for condition, mark in zip(CONDITIONS, marks) if mark]
            for state, kinds, acts in places:
                each = (state == 1, kinds[0] == 1, acts[0] == 0, kinds[1] == 0, acts[1] == 2)
                wanted = all(one for one, mark in zip(each, marks) if mark)
                self.assertIs(holds(event, state, list(kinds), list(acts)), wanted)

    def test_the_empty_event_holds_always(self):
        self.assertIs(holds([], 0, [1, 0], [1, 2]), True)


if __name__ == "__main__":
    unittest.main()
