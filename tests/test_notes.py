"""Point 16, conditions written as texts and read from them."""

import random
import unittest

from codecolumns.errors import BadCondition, BadKinds, BadText
from codecolumns.notes import read, written
from builders import MANY_KINDS, some_condition
from refusals import RefusalCase

KINDS = ("number", "word", "number", "word")
WRITTEN = [
    (("all",), "all"),
    (("is", 0, 5), "is 0 5"),
    (("is", 0, 0), "is 0 0"),
    (("is", 0, -5), "is 0 -5"),
    (("is", 2, 9999), "is 2 9999"),
    (("is", 2, -9999), "is 2 -9999"),
    (("is", 1, "ab"), "is 1 =ab"),
    (("is", 1, ""), "is 1 ="),
    (("is", 3, "zzzzzz"), "is 3 =zzzzzz"),
    (("is", 3, "all"), "is 3 =all"),
    (("less", 0, -10), "less 0 -10"),
    (("less", 1, "b"), "less 1 =b"),
    (("within", 0, -3, 120), "within 0 -3 120"),
    (("within", 1, "", "m"), "within 1 = =m"),
    (("begins", 1, "ab"), "begins 1 =ab"),
    (("begins", 3, ""), "begins 3 ="),
    (("not", ("all",)), "not all"),
    (("and", ("is", 0, -5), ("not", ("begins", 1, "ab"))), "and is 0 -5 not begins 1 =ab"),
    (("or", ("and", ("all",), ("is", 1, "not")), ("within", 2, 1, 2)), "or and all is 1 =not within 2 1 2"),
    (("and", ("or", ("all",), ("all",)), ("or", ("not", ("all",)), ("all",))), "and or all all or not all all"),
    (("not", ("not", ("not", ("not", ("not", ("not", ("not", ("all",)))))))), "not " * 7 + "all"),
]

# Texts that are none, with the place of the first word that can't stand there.
WRONG = [
    # An empty text, blanks that are too many.
    ("", 0), (" ", 0), ("  ", 0), (" all", 0), ("all ", 1), ("all  ", 1), ("not  all", 1), ("is  0 5", 1),
    ("is 0  5", 2), ("is 0 5 ", 3), ("and all  all", 2), ("not ", 1), ("is ", 1), ("is 0 ", 2),
    # Wrong names.
    ("none", 0), ("All", 0), ("ALL", 0), ("alll", 0), ("al", 0), ("5", 0), ("=all", 0), ("=", 0), ("0 is 5", 0),
    ("is0 5", 0), ("not every", 1), ("not 5", 1), ("not =", 1), ("not =all", 1), ("and all be", 2),
    ("and is 0 5 3", 4), ("or or all all nor", 4), ("and not all =a", 3), ("all,", 0), ("(all)", 0),
    # Words too many.
    ("all all", 1), ("all 0", 1), ("all =", 1), ("is 0 5 5", 3), ("is 0 5 is 0 5", 3), ("less 0 5 =a", 3),
    ("within 0 1 2 3", 4), ("begins 1 =a =b", 3), ("not all all", 2), ("and all all all", 3),
    ("or is 0 5 all not", 5), ("all what", 1),
    # Words left out: how many there are.
    ("is", 1), ("is 0", 2), ("less 1", 2), ("within", 1), ("within 0", 2), ("within 0 5", 3), ("begins", 1),
    ("begins 1", 2), ("not", 1), ("not not", 2), ("and", 1), ("and all", 2), ("and all not", 3), ("or all is 0", 4),
    ("and or all all", 4), ("or is 0 5", 4), ("not " * 30 + "not", 31),
    # What is no part.
    ("is all 5", 1), ("is is 5", 1), ("is a 5", 1), ("is 0 all", 2), ("is 0 five", 2), ("less ab 5", 1),
    ("is 1 ab", 2), ("is 1 a=", 2), ("within 0 5 not", 3), ("within 0 all 5", 2), ("begins 1 ab", 2),
    ("and is 0 x all", 3), ("is 0 5.0", 2), ("is 0 5,", 2), ("is 0 +5", 2), ("is 0 0x5", 2), ("is 0 1e3", 2),
    ("is 0 1_0", 2), ("is 0 (5)", 2),
    # Numbers with needless figures, or five of them.
    ("is 0 05", 2), ("is 0 00", 2), ("is 0 0005", 2), ("is 0 -05", 2), ("is 0 -0", 2), ("is 0 -00", 2),
    ("is 00 5", 1), ("is 01 5", 1), ("is -0 5", 1), ("is 0 10000", 2), ("is 0 -10000", 2), ("is 0 12345", 2),
    ("is 0 00001", 2), ("is 0 99999999999999999999", 2), ("is 10000 5", 1), ("is 0 -", 2), ("is 0 --5", 2),
    ("is 0 5-", 2), ("is 0 - 5", 2), ("is - 5", 1), ("within 0 -0 5", 2), ("within 0 5 05", 3),
    # Words with too many letters, or with other signs.
    ("is 1 =abcdefg", 2), ("is 1 =zzzzzzz", 2), ("is 1 ==", 2), ("is 1 =a=", 2), ("is 1 =a1", 2), ("is 1 =1", 2),
    ("is 1 =-", 2), ("is 1 =a-b", 2), ("is 1 =a b", 3), ("is 1 = a", 3), ("begins 1 =abcdefg", 2),
    ("within 1 =a =bcdefgh", 3), ("within 1 =abcdefgh =b", 2), ("is =abcdefg 5", 1), ("is 1 -=a", 2),
    ("is 1 'a'", 2), ("is 1 =a.", 2), ("is 1 =~", 2), ("is 1 =!", 2), ("is 1 =`", 2), ("is 1 ={", 2),
]

# What can be read, but is no condition on these columns.
NO_CONDITIONS = [
    "is 4 5", "is 9999 5", "is -1 5", "is -9999 5", "is =a 5", "is = 5", "is =zero =a", "is 0 =a", "is 0 =",
    "is 1 5", "is 1 0", "less 0 =a", "less 1 -5", "less 4 =a", "within 0 5 =a", "within 0 =a 5", "within 1 5 6",
    "within 1 =a 6", "within 5 1 2", "within =a 1 2", "begins 0 =a", "begins 0 5", "begins 1 5", "begins 2 =",
    "begins 4 =a", "begins -3 =a", "not is 1 5", "and all is 0 =a", "or is 4 4 all", "and is 0 5 not begins 0 =ab",
    "not " * 8 + "all", "not " * 15 + "all", "not " * 40 + "all", "and " * 8 + "all" + " all" * 8,
    "or " * 15 + "all" + " all" * 15, "and and and all all and all all and and all all and all not all",
    "and " + "not " * 7 + "all all",
]
BAD_KINDS = [(), ("number",) * 5, ("numbers",), ("number", "text"), ("",), ("word", "Number")]


class WrittenTest(RefusalCase):
    def test_texts_written_by_hand(self):
        for condition, text in WRITTEN:
            self.assertEqual(written(KINDS, condition), text)
            self.assertIs(written(KINDS, condition).__class__, str)

    def test_what_is_no_condition(self):
        for wrong in ((), ("none",), ("all", 1), ("is", 4, 5), ("is", 0, "a"), ("begins", 0, "a"),
                      ("is", 0, 10000), ("not", ("is", 1, 5)), ("is", 1, "abcdefg"), ("not", "all")):
            self.refused(BadCondition, written, KINDS, wrong)

    def test_kinds_that_are_none(self):
        for kinds in BAD_KINDS:
            self.refused(BadKinds, written, kinds, ("all",))
            self.refused(BadKinds, written, kinds, ())
            self.refused(BadKinds, read, kinds, "all")
            self.refused(BadKinds, read, kinds, "none at all")
            self.refused(BadKinds, read, kinds, "")


class ReadTest(RefusalCase):
    def test_texts_written_by_hand(self):
        for condition, text in WRITTEN:
            told = read(KINDS, text)
            self.assertEqual(told, condition)
            self.same_sort(told)

    def same_sort(self, part):
        self.assertIn(part.__class__, (tuple, str, int))
        if isinstance(part, tuple):
            for inner in part:
                self.same_sort(inner)

    def test_what_is_written_is_read_to_the_same(self):
        dice = random.Random(12)
        for kinds in MANY_KINDS:
            for _ in range(150):
                condition = some_condition(dice, kinds)
                text = written(kinds, condition)
                self.assertEqual(read(kinds, text), condition)
                self.assertEqual(written(kinds, read(kinds, text)), text)

    def test_texts_that_are_none(self):
        for text, place in WRONG:
            self.refused_at(place, BadText, read, KINDS, text)

    def test_texts_spoilt_at_each_word(self):
        for _, text in WRITTEN:
            words = text.split(" ")
            for at, word in enumerate(words):
                named = word[0].isalpha()
                spoilt = ["", "-", "-0", "00", "12345", "=abcdefg", "=A", "nor", "ALL", "a", word + "!", "!" + word]
                spoilt += ["0", "-7", "=", "=all", "=is"] if named else ["all", "is", "not", "0" + word, word + "A"]
                for other in spoilt:
                    if other != word:
                        self.refused_at(at, BadText, read, KINDS, " ".join(words[:at] + [other] + words[at + 1:]))
                self.refused_at(at, BadText, read, KINDS, " ".join(words[:at]))
                self.refused_at(at, BadText, read, KINDS, " ".join(words[:at] + [""] + words[at:]))
            for other in ("all", "0", "=", "", "what"):
                self.refused_at(len(words), BadText, read, KINDS, text + " " + other)

    def test_what_can_be_read_but_is_no_condition(self):
        for text in NO_CONDITIONS:
            self.refused(BadCondition, read, KINDS, text)
        self.refused(BadCondition, read, ("number",), "is 1 =a")
        self.refused(BadCondition, read, ("word",), "is 0 5")

    def test_as_many_as_there_may_be(self):
        text = "and and and all all and all all and and all all and all all"
        pair = ("and", ("all",), ("all",))
        self.assertEqual(read(KINDS, text), ("and", ("and", pair, pair), ("and", pair, pair)))
        self.assertEqual(read(KINDS, "not " * 7 + "is 3 =b")[1][1][1][1][1][1][1], ("is", 3, "b"))

    def test_wrong_words_go_ahead_of_wrong_conditions(self):
        self.refused_at(3, BadText, read, KINDS, "is 4 5 5")
        self.refused_at(4, BadText, read, KINDS, "and is 9 =a every")
        self.refused_at(4, BadText, read, KINDS, "and is 9 =a")
        self.refused_at(41, BadText, read, KINDS, "not " * 40 + "all all")
        self.refused_at(40, BadText, read, KINDS, "not " * 39 + "not")

    def test_the_same_is_told_again(self):
        for condition, text in WRITTEN:
            for _ in range(2):
                self.assertEqual(written(KINDS, condition), text)
                self.assertEqual(read(KINDS, text), condition)


if __name__ == "__main__":
    unittest.main()
