import unittest

from talkmost.errors import BadText, NotAllowed
from talkmost.houses import House, act_counts, format_house, kind_counts, parse_house

EXAMPLE = "house states rain sun end hearer ann kinds shy bold acts stay go end end"
SHORT = "house states s end hearer h kinds k acts a end end"
KEPT = ("house", "states", "hearer", "kinds", "acts", "end", "state", "is", "does", "teller")
NO_NAMES = ("1a", "Ann", "aN", "a_b", "a-b", "-", "abcdefghijklm", "a.")
ONE_HEARER = "hearer {} kinds k acts a end"


def hearers(*names):
    return " ".join(ONE_HEARER.format(name) for name in names)


class HouseTestCase(unittest.TestCase):
    def refused(self, text, at):
        with self.assertRaises(BadText) as caught:
            parse_house(text)
        self.assertEqual(caught.exception.at, at, text)


class TextTest(HouseTestCase):
    def test_example(self):
        self.assertEqual(format_house(parse_house(EXAMPLE)), EXAMPLE)

    def test_parts(self):
        house = parse_house(EXAMPLE)
        self.assertEqual(house.states, ["rain", "sun"])
        self.assertEqual(house.hearers, [("ann", ["shy", "bold"], ["stay", "go"])])
        self.assertIs(type(house.hearers[0]), tuple)

    def test_there_and_back(self):
        texts = [
            SHORT,
            "house states a b c d end hearer e kinds f g h acts i j k end end",
            f"house states a b end {hearers('x')} hearer y kinds k l acts a b c end end",
            f"house states a end {hearers('x', 'y', 'z')} end",
            "house states a1b2c3d4e5f6 z end hearer z kinds z a acts z a b end end",
        ]
        for text in texts:
            self.assertEqual(format_house(parse_house(text)), text)

    def test_several_spaces(self):
        text = "   " + SHORT.replace(" ", "   ").replace("s   end", "s end") + "  "
        self.assertEqual(format_house(parse_house(text)), SHORT)
        self.refused("  house   states  ", 2)

    def test_only_spaces_separate_words(self):
        self.refused(SHORT.replace("states s", "states\ts"), 1)
        self.refused(SHORT + "\n", 11)

    def test_counts(self):
        house = parse_house("house states s end hearer x kinds a b c acts a end "
                            "hearer y kinds a acts a b end end")
        self.assertEqual(kind_counts(house), [3, 1])
        self.assertEqual(act_counts(house), [1, 2])

    def test_names_that_may_be_alike(self):
        text = ("house states x y end hearer x kinds x y acts x y end "
                "hearer y kinds x acts x y end end")
        self.assertEqual(format_house(parse_house(text)), text)

    def test_names_of_12_characters(self):
        self.assertEqual(parse_house(SHORT.replace("states s", "states abcdefghij12")).states,
                         ["abcdefghij12"])
        self.refused(SHORT.replace("states s", "states abcdefghij123"), 2)


class BadTextTest(HouseTestCase):
    def test_each_word_that_is_no_name(self):
        words = SHORT.split(" ")
        for at in (2, 5, 7, 9):
            for word in KEPT + NO_NAMES:
                self.refused(" ".join(words[:at] + [word] + words[at + 1:]), at)

    def test_each_kept_word_that_is_another(self):
        words = SHORT.split(" ")
        for at in (0, 1, 4, 6):
            for word in KEPT + NO_NAMES + ("name",):
                if word != words[at]:
                    self.refused(" ".join(words[:at] + [word] + words[at + 1:]), at)

    def test_a_kept_word_behind_a_name(self):
        words = SHORT.split(" ")
        for at in (3, 8, 10):
            for word in KEPT + NO_NAMES:
                if word != words[at]:
                    self.refused(" ".join(words[:at] + [word] + words[at + 1:]), at)

    def test_the_end_of_hearers(self):
        words = SHORT.split(" ")
        for word in KEPT + NO_NAMES + ("name",):
            if word not in ("end", "hearer"):
                self.refused(" ".join(words[:11] + [word]), 11)
        self.refused(" ".join(words[:11] + ["hearer"]), 12)

    def test_a_name_that_stood_before(self):
        self.refused("house states a b a end", 4)
        self.refused("house states a a b c d", 3)
        self.refused("house states s end hearer h kinds k l k acts a end end", 9)
        self.refused("house states s end hearer h kinds k acts a b b end end", 11)
        self.refused(f"house states s end {hearers('x', 'x')} end", 12)
        self.refused(f"house states s end {hearers('x', 'y', 'x')} end", 19)

    def test_one_name_too_many(self):
        self.refused("house states a b c d e end", 6)
        self.refused("house states a b c d d end", 6)
        self.refused("house states s end hearer h kinds a b c d acts a end end", 10)
        self.refused("house states s end hearer h kinds a acts a b c d end end", 12)
        self.refused(f"house states s end {hearers('x', 'y', 'z', 'w')} end", 25)
        self.refused(f"house states s end {hearers('x', 'y', 'z')} hearer", 25)
        self.refused(f"house states s end {hearers('x', 'y', 'z')} name", 25)

    def test_too_few_names(self):
        self.refused("house states end hearer h kinds k acts a end end", 2)
        self.refused("house states s end hearer kinds k acts a end end", 5)
        self.refused("house states s end hearer h kinds acts a end end", 7)
        self.refused("house states s end hearer h kinds k acts end end", 9)
        self.refused("house states s end end", 4)

    def test_words_behind_the_last_end(self):
        for word in ("end", "hearer", "house", "name", "-"):
            self.refused(f"{SHORT} {word}", 12)
        self.refused(f"house states s end {hearers('x', 'y', 'z')} end end", 26)

    def test_a_text_cut_off_at_each_word(self):
        texts = [
            EXAMPLE, SHORT,
            "house states a b c d end hearer e kinds f g h acts i j k end end",
            f"house states s end {hearers('x', 'y', 'z')} end",
        ]
        for text in texts:
            words = text.split(" ")
            for many in range(len(words)):
                self.refused(" ".join(words[:many]), many)

    def test_the_empty_text(self):
        self.refused("", 0)
        self.refused("    ", 0)

    def test_the_first_wrong_word_counts(self):
        self.refused("house states s end hearer h kinds K acts A end end end", 7)
        self.refused("houses state", 0)


class TooManyCasesTest(HouseTestCase):
    def test_48_cases_and_more(self):
        full = ("house states a b c d end hearer x kinds a b acts a b c end "
                "hearer y kinds a acts a b end end")
        self.assertEqual(format_house(parse_house(full)), full)
        more = [
            full.replace("hearer y kinds a", "hearer y kinds a b"),
            "house states a b end hearer x kinds a b c acts a b c end hearer y kinds a b c acts a end end",
            "house states a b c d end hearer x kinds a b c acts a b c end "
            "hearer y kinds a b c acts a b c end hearer z kinds a b c acts a b c end end",
            "house states a end hearer x kinds a b c acts a end hearer y kinds a b c acts a b end "
            "hearer z kinds a b c acts a end end",
        ]
        for text in more:
            self.assertRaises(NotAllowed, parse_house, text)

    def test_wrong_words_come_first(self):
        text = ("house states a b c d end hearer x kinds a b c acts a b c end "
                "hearer y kinds a b c acts a b c end end")
        self.assertRaises(NotAllowed, parse_house, text)
        self.refused(text + " end", 30)
        self.refused(text[:-4], 29)


class HouseTest(unittest.TestCase):
    def test_lists_of_its_own(self):
        states, kinds, acts = ["s"], ["k", "l"], ["a"]
        given = [("h", kinds, acts)]
        house = House(states, given)
        states.append("t")
        kinds.append("m")
        acts[0] = "b"
        given.append(("g", ["k"], ["a"]))
        self.assertEqual(house.states, ["s"])
        self.assertEqual(house.hearers, [("h", ["k", "l"], ["a"])])
        self.assertEqual(format_house(house), "house states s end hearer h kinds k l acts a end end")

    def test_arguments_stay(self):
        states, given = ["s"], [("h", ["k"], ["a"])]
        house = House(states, given)
        format_house(house), kind_counts(house), act_counts(house)
        self.assertEqual((states, given), (["s"], [("h", ["k"], ["a"])]))
        self.assertEqual((house.states, house.hearers), (["s"], [("h", ["k"], ["a"])]))


if __name__ == "__main__":
    unittest.main()
