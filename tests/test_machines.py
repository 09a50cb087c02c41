import unittest

from talehands.machines import book_views, machine
from tests.helpers import book_from, chance_books, hands_in, kept, letters, names, sent, taken, told_book, views_in


def rows_from(states, number):
    """All rows of steps from the state to a state with end True."""
    end, steps = states[number]
    rows = [()] if end else []
    return rows + [(deed,) + row for deed, behind in steps for row in rows_from(states, behind)]


def come_to(states):
    """The numbers of the states in the order in which they are first come to."""
    found = [0]
    for number in found:
        for deed, behind in states[number][1]:
            if behind not in found:
                found.append(behind)
    return found


class BookViews(unittest.TestCase):

    def test_rising_each_once(self):
        one = told_book("a>b:y", "a>b:x", "a>b:x b>a:z", "-")
        self.assertEqual(book_views(one, "a"), ((), (sent("a b x"),), (sent("a b x"), taken("b a z")), (sent("a b y"),)))
        self.assertEqual(book_views(one, "b"), ((), (taken("a b x"),), (taken("a b x"), sent("b a z")),
                                                (taken("a b y"),)))
        one = told_book("a>b:w a>c:x", "a>b:w a>c:y")
        self.assertEqual(book_views(one, "b"), ((taken("a b w"),),))

    def test_of_a_hand_that_the_book_has_not(self):
        for one in (told_book("-"), told_book("a>b:w"), told_book("a>b:w", "-")):
            self.assertEqual(book_views(one, "c"), ((),))
            self.assertEqual(book_views(one, "w"), ((),))

    def test_made_by_chance(self):
        for one in chance_books(80, 40, 6, 8) + chance_books(81, 10, 40, 32, "abcde"):
            for hand in hands_in(one) + ("zed",):
                told = book_views(one, hand)
                self.assertIs(type(told), tuple)
                self.assertEqual(told, views_in(one, hand))


class Machine(unittest.TestCase):

    def test_few(self):
        self.assertEqual(machine(told_book("-"), "a"), ((True, ()),))
        self.assertEqual(machine(told_book("a>b:w"), "a"), ((False, ((sent("a b w"), 1),)), (True, ())))
        self.assertEqual(machine(told_book("a>b:w", "-"), "b"), ((True, ((taken("a b w"), 1),)), (True, ())))
        self.assertEqual(machine(told_book("a>b:w a>b:w", "-"), "b"),
                         ((True, ((taken("a b w"), 1),)), (False, ((taken("a b w"), 2),)), (True, ())))

    def test_states_that_let_the_same_come_are_one(self):
        one = told_book("a>b:x a>b:z", "a>b:y a>b:z")
        self.assertEqual(machine(one, "a"), ((False, ((sent("a b x"), 1), (sent("a b y"), 1))),
                                             (False, ((sent("a b z"), 2),)), (True, ())))
        one = told_book("a>b:x a>b:z", "a>b:y a>b:z", "a>b:y")
        self.assertEqual(machine(one, "a"), ((False, ((sent("a b x"), 1), (sent("a b y"), 2))),
                                             (False, ((sent("a b z"), 3),)), (True, ((sent("a b z"), 3),)), (True, ())))

    def test_of_a_hand_that_the_book_has_not(self):
        for one in (told_book("a>b:w"), told_book("a>b:w", "b>a:w")):
            self.assertEqual(machine(one, "c"), ((True, ()),))

    def test_made_by_chance(self):
        shared = 0
        for one in chance_books(82, 80, 6, 8) + chance_books(83, 40, 12, 10, "ab") + chance_books(84, 10, 40, 32, "abcde"):
            for hand in hands_in(one) + ("zed",):
                shared += self.hold(one, hand)
        self.assertGreater(shared, 20)

    def test_long(self):
        self.hold(book_from(letters("a", "b", [name] + ["w"] * 15) for name in names(40)), "a")
        self.hold(book_from(letters("a", "b", "w" * many) for many in range(17)), "b")

    def hold(self, one, hand):
        """Hold the machine against the document; how many states were spared."""
        states = machine(one, hand)
        self.forms(states)
        let_come = [tuple(sorted(rows_from(states, number))) for number in range(len(states))]
        self.assertEqual(let_come[0], views_in(one, hand))
        self.assertNotIn((), let_come)
        self.assertEqual(len(set(let_come)), len(states))
        self.assertEqual(come_to(states), list(range(len(states))))
        beginnings = {row[:many] for row in let_come[0] for many in range(len(row) + 1)}
        return len(beginnings) - len(states)

    def forms(self, states):
        self.assertIs(type(states), tuple)
        for state in states:
            self.assertIs(type(state), tuple)
            end, steps = state
            self.assertIs(type(end), bool)
            self.assertIs(type(steps), tuple)
            deeds = [deed for deed, number in steps]
            self.assertEqual(deeds, sorted(set(deeds)))
            for step in steps:
                self.assertIs(type(step), tuple)
                self.assertIs(type(step[1]), int)

    def test_what_is_handed_in_stays(self):
        one = told_book("a>b:w", "b>a:w")
        told = kept(self, [one, "a"], machine)
        self.assertEqual(kept(self, [one, "a"], machine), told)
        self.assertEqual(kept(self, [one, "a"], book_views), book_views(one, "a"))


if __name__ == "__main__":
    unittest.main()
