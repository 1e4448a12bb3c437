import random
import unittest

from tests.calling import begin, change, poem_of, redo, run_on, session_after, strike, undo, write

NAMES = [first + second for first in "abcdefghijkl" for second in "abcdefghijkl"]


def random_makers(source, how_many):
    """Calls on record 0, each write with a text of its own."""
    made = [begin(0)]
    for n in range(how_many):
        hand = source.randrange(4)
        at = source.randrange(1 + n // 2)
        choice = source.randrange(10)
        if choice < 5:
            made.append(write(0, hand, at, NAMES[n]))
        elif choice == 5:
            made.append(strike(0, hand, at))
        elif choice == 6:
            made.append(change(0, hand, at, NAMES[n] + " changed"))
        elif choice < 9:
            made.append(undo(0, hand))
        else:
            made.append(redo(0, hand))
    return made


class UndoneAndRedone(unittest.TestCase):
    """G4: undone and redone, all is shown as before."""

    def test_once(self):
        source = random.Random(4)
        for time in range(60):
            session = session_after(*random_makers(source, 60))
            for hand in range(4):
                before = poem_of(session)
                if run_on(session, undo(0, hand))[0] > 0:
                    run_on(session, redo(0, hand))
                self.assertEqual(poem_of(session), before)

    def test_as_often_as_there_is_a_step(self):
        source = random.Random(44)
        for time in range(60):
            session = session_after(*random_makers(source, 50))
            hand = source.randrange(4)
            seen = [poem_of(session)]
            while run_on(session, undo(0, hand))[0] > 0:
                seen.append(poem_of(session))
            for before in reversed(seen[:-1]):
                self.assertGreater(run_on(session, redo(0, hand))[0], 0)
                self.assertEqual(poem_of(session), before)

    def test_with_another_hands_steps_between(self):
        session = session_after(begin(0), write(0, 0, 0, "x"), write(0, 0, 1, "y"), change(0, 0, 1, "z"))
        run_on(session, undo(0, 0), undo(0, 0), write(0, 1, 1, "n"), redo(0, 0), redo(0, 0))
        self.assertEqual(poem_of(session), ["z", "n", "y"])


class EachLineOnce(unittest.TestCase):
    """G3: each line that stands is shown once, no other."""

    def test_writes_alone(self):
        source = random.Random(3)
        for time in range(30):
            calls = [begin(0)] + [write(0, source.randrange(8), source.randrange(n + 1), NAMES[n]) for n in range(128)]
            self.assertEqual(sorted(poem_of(session_after(*calls))), sorted(NAMES[:128]))

    def test_writes_undone_and_redone(self):
        source = random.Random(33)
        for time in range(30):
            session = session_after(begin(0))
            standing = []
            undone = []
            for n in range(128):
                choice = source.randrange(4)
                if choice == 0 and standing:
                    run_on(session, undo(0, 0))
                    undone.append(standing.pop())
                elif choice == 1 and undone:
                    run_on(session, redo(0, 0))
                    standing.append(undone.pop())
                elif not undone:
                    run_on(session, write(0, 0, source.randrange(len(standing) + 1), NAMES[n]))
                    standing.append(NAMES[n])
                self.assertEqual(sorted(poem_of(session)), sorted(standing))

    def test_strikes(self):
        source = random.Random(333)
        for time in range(30):
            session = session_after(begin(0), *[write(0, 0, n, NAMES[n]) for n in range(40)])
            left = NAMES[:40]
            while left:
                at = source.randrange(len(left))
                run_on(session, strike(0, 1, at + 1))
                left = left[:at] + left[at + 1:]
                self.assertEqual(poem_of(session), left)


class NoLinesChangePlaces(unittest.TestCase):
    def test_whatever_is_done(self):
        source = random.Random(2)
        for time in range(30):
            session = session_after(begin(0))
            orders = {}
            for call in random_makers(source, 100)[1:]:
                # Texts that change would hide which line is which.
                if call[0] == 3:
                    continue
                run_on(session, call)
                self.note_order(orders, poem_of(session))

    def note_order(self, orders, shown):
        for k, line in enumerate(shown):
            for later in shown[k + 1:]:
                self.assertNotIn((later, line), orders)
                orders[(line, later)] = True


if __name__ == "__main__":
    unittest.main()
