import itertools
import random
import unittest

from talehands.machines import machine
from talehands.seen import seen
from tests.helpers import book_from, chance_books, hands_in, kept, letters, sent, taken, told_book, views_in


def told_of(one, other):
    """What is to be told of the two books."""
    for hand in sorted(set(hands_in(one) + hands_in(other))):
        parting = set(views_in(one, hand)) ^ set(views_in(other, hand))
        if parting:
            fewest = min(map(len, parting))
            return ("parted", hand, min(view for view in parting if len(view) == fewest))
    return ("alike",)


class Seen(unittest.TestCase):

    def test_a_book_and_itself(self):
        for one in [told_book("-"), told_book("a>b:w"), told_book("a>b:w", "-")] + chance_books(90, 20, 6, 8):
            self.assertEqual(seen(one, one), ("alike",))
            self.assertEqual(seen(one, tuple(list(one))), ("alike",))

    def test_other_stories_with_the_same_views(self):
        one = told_book("a>b:x c>d:x", "a>b:y c>d:y")
        other = told_book("a>b:x c>d:y", "a>b:y c>d:x")
        both = told_book("a>b:x c>d:x", "a>b:y c>d:y", "a>b:x c>d:y", "a>b:y c>d:x")
        for first, second in itertools.permutations((one, other, both), 2):
            self.assertNotEqual(first, second)
            self.assertEqual(seen(first, second), ("alike",))

    def test_a_view_more_either_way_about(self):
        self.both(told_book("a>b:x"), told_book("a>b:x", "a>b:y"), ("parted", "a", (sent("a b y"),)))
        self.both(told_book("a>b:x"), told_book("a>b:x", "-"), ("parted", "a", ()))
        self.both(told_book("a>b:x"), told_book("a>b:y"), ("parted", "a", (sent("a b x"),)))

    def test_the_least_hand(self):
        self.both(told_book("a>b:w c>b:x"), told_book("a>b:w c>b:y"), ("parted", "b", (taken("a b w"), taken("c b x"))))
        self.both(told_book("b>a:w c>d:x"), told_book("b>a:w c>d:y"), ("parted", "c", (sent("c d x"),)))

    def test_the_fewest_deeds_then_the_least(self):
        self.both(told_book("a>b:b"), told_book("a>b:a a>b:a"), ("parted", "a", (sent("a b b"),)))
        self.both(told_book("a>b:b", "a>b:c"), told_book("a>b:a a>b:a", "a>b:d"), ("parted", "a", (sent("a b b"),)))
        self.both(told_book("a>b:z", "a>b:x"), told_book("a>b:z", "a>b:y a>b:y"), ("parted", "a", (sent("a b x"),)))
        self.both(told_book("a>b:z a>b:z"), told_book("a>b:z a>b:z", "a>b:z"), ("parted", "a", (sent("a b z"),)))

    def test_a_hand_that_just_one_has(self):
        self.both(told_book("b>c:w"), told_book("b>c:w", "a>b:w b>c:w"), ("parted", "a", (sent("a b w"),)))
        self.both(told_book("b>c:w"), told_book("a>b:w b>c:w"), ("parted", "a", ()))
        self.both(told_book("a>b:w"), told_book("c>d:w"), ("parted", "a", ()))
        self.both(told_book("-"), told_book("-", "c>d:w"), ("parted", "c", (sent("c d w"),)))
        self.both(told_book("-"), told_book("c>d:w"), ("parted", "c", ()))

    def test_made_by_chance(self):
        books = chance_books(91, 30, 3, 4, "ab", "w") + chance_books(92, 30, 3, 4)
        chance = random.Random(93)
        pool = [letters("a", "b", first) + letters("c", "d", second) for first in "xyz" for second in "xyz"]
        books += [book_from(chance.sample(pool, chance.randint(2, 5))) for turn in range(30)]
        unlike = 0
        for one, other in itertools.product(books, books):
            answer = seen(one, other)
            self.assertEqual(answer, told_of(one, other))
            hands = set(hands_in(one) + hands_in(other))
            same = all(machine(one, hand) == machine(other, hand) for hand in hands)
            self.assertEqual(answer == ("alike",), same)
            unlike += one != other and same
        self.assertGreater(unlike, 10)

    def test_what_is_handed_in_stays(self):
        one, other = told_book("a>b:w"), told_book("a>b:w", "-")
        self.assertEqual(kept(self, [one, other], seen), ("parted", "a", ()))
        self.assertEqual(kept(self, [one, other], seen), ("parted", "a", ()))

    def both(self, one, other, answer):
        self.assertEqual(seen(one, other), answer)
        self.assertEqual(seen(other, one), answer)
        self.assertEqual(told_of(one, other), answer)


if __name__ == "__main__":
    unittest.main()
