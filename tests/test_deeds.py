import unittest

from talehands.deeds import hand_of, is_deed, is_row
from tests.helpers import Odd, any_things, kept, sent, taken


class Deeds(unittest.TestCase):

    def test_deeds_of_each_kind(self):
        for kind in ("send", "take"):
            for names in (("a", "b", "w"), ("b", "a", "w"), ("a", "b", "a"), ("a", "b", "b"), ("send", "take", "send"),
                          ("abcdefgh", "abcdefgi", "zzzzzzzz"), ("a", "aa", "a")):
                self.assertIs(is_deed((kind,) + names), True, (kind, names))

    def test_other_kinds(self):
        for kind in ("sends", "Send", "SEND", "", "sen", "taken", "end", "!", None, True, 0, b"send", ("send",),
                     ["send"], {"send": 1}, Odd()):
            self.assertIs(is_deed((kind, "a", "b", "w")), False, repr(kind))

    def test_alike_hands(self):
        self.assertIs(is_deed(("send", "a", "a", "w")), False)
        self.assertIs(is_deed(("take", "ab", "ab", "w")), False)

    def test_parts_more_or_fewer(self):
        deed = ("send", "a", "b", "w")
        for wrong in ((), deed[:1], deed[:2], deed[:3], deed[1:], deed + ("w",), deed + (None,), deed + deed):
            self.assertIs(is_deed(wrong), False, wrong)

    def test_deeds_as_other_kinds(self):
        deed = ("send", "a", "b", "w")
        for wrong in (list(deed), dict.fromkeys(deed), set(deed), (deed,), " ".join(deed), "abcd"):
            self.assertIs(is_deed(wrong), False, wrong)

    def test_parts_that_are_no_names(self):
        noughts = ["", "A", "a1", "abcdefghi", "a b", "\u00e9", None, True, 1, b"a", ("a",), ["a"], {"a": 1}, Odd()]
        for at in (1, 2, 3):
            for wrong in noughts:
                for kind in ("send", "take"):
                    deed = [kind, "a", "b", "w"]
                    deed[at] = wrong
                    self.assertIs(is_deed(tuple(deed)), False, repr(deed))

    def test_things_of_any_kind(self):
        for thing in any_things() + [0, 1, ()]:
            for wrong in (thing, (thing, "a", "b", "w"), ("send", thing, "b", "w"), ("send", "a", thing, "w"),
                          ("send", "a", "b", thing), (thing,) * 4):
                self.assertIs(is_deed(wrong), False, repr(wrong))

    def test_rows(self):
        one, other = sent("a b w"), taken("c d v")
        for row in ((), (one,), (other,), (one, one), (other, one, other), (one,) * 32, (other,) * 40):
            self.assertIs(is_row(row), True)

    def test_what_is_no_row(self):
        deed = sent("a b w")
        for wrong in ([], [deed], {deed: 1}, {deed}, deed, (deed, None), (None, deed), (deed, list(deed)), (deed, ()),
                      ((deed,),), (deed, "a!b:w"), ("send", "a", "b", "w"), (deed, deed, deed[:3], deed),
                      (deed, ("send", "a", "a", "w")), "", "-", "a!b:w"):
            self.assertIs(is_row(wrong), False, repr(wrong))
        for thing in any_things() + [0, 1, "a"]:
            self.assertIs(is_row(thing), False, repr(thing))
            self.assertIs(is_row((deed, thing)), False, repr(thing))

    def test_hand_of(self):
        self.assertEqual(hand_of(sent("a b w")), "a")
        self.assertEqual(hand_of(taken("a b w")), "b")
        self.assertEqual(hand_of(sent("zed anne hi")), "zed")
        self.assertEqual(hand_of(taken("zed anne hi")), "anne")
        self.assertEqual(hand_of(sent("take send take")), "take")
        self.assertEqual(hand_of(taken("take send take")), "send")

    def test_what_is_handed_in_stays(self):
        for thing in (["send", "a", "b", "w"], ("send", ["a"], "b", "w"), [("send", "a", "b", "w")], ([],)):
            kept(self, [thing], is_deed)
            kept(self, [thing], is_row)


if __name__ == "__main__":
    unittest.main()
