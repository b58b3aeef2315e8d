"""Versions with undo and redo ([L1], [L2])."""

import random
import unittest

from tongues.errors import TongueError
from tongues.versions import NothingToRedo, NothingToUndo, NoVersion, Versions
from tests.raising import raised


class Slow:
    """Versions by the words of part L: each one with all that it remembers."""

    def __init__(self, state):
        self.states, self.origins, self.memory, self.present = [state], [None], {}, 0

    def make(self, state):
        self.states.append(state)
        self.origins.append(self.present)
        self.memory[self.present] = len(self.states) - 1
        self.present = len(self.states) - 1

    def undo(self):
        left, self.present = self.present, self.origins[self.present]
        self.memory[self.present] = left

    def redo(self):
        self.present = self.memory[self.present]

    def go(self, version):
        way = [version]
        while way[0] != 0:
            way.insert(0, self.origins[way[0]])
        for one, other in zip(way, way[1:]):
            self.memory[one] = other
        self.present = version


class VersionsTest(unittest.TestCase):
    def check(self, versions, present, remembered, *origins):
        self.assertEqual((versions.present, versions.remembered(), versions.made_from()), (present, remembered, origins))

    def memory(self, versions):
        """What each version remembers, looked up without going there."""
        return [versions._remembered[number] for number in range(len(versions.made_from()))]

    def test_the_errors(self):
        for error in (NothingToUndo, NothingToRedo, NoVersion):
            self.assertEqual(error.__bases__, (TongueError,))

    def test_version_0(self):
        versions = Versions("a")
        self.check(versions, 0, None, None)
        self.assertEqual((versions.state(), versions.state_of(0)), ("a", "a"))
        for call in ((versions.undo,), (versions.redo,), (versions.go, -1), (versions.go, 1), (versions.state_of, -1), (versions.state_of, 1)):
            self.assertIn(raised(*call)[0], ("NothingToUndo", "NothingToRedo", "NoVersion"))
            self.check(versions, 0, None, None)
        self.assertEqual(versions.go(0), 0)
        self.check(versions, 0, None, None)

    def test_make(self):
        versions = Versions("a")
        self.assertEqual([versions.make(state) for state in "bcd"], [1, 2, 3])
        self.check(versions, 3, None, None, 0, 1, 2)
        self.assertEqual([versions.state_of(number) for number in range(4)], list("abcd"))
        self.assertEqual((versions.state(), self.memory(versions)), ("d", [1, 2, 3, None]))

    def test_undo_and_redo(self):
        versions = Versions("a")
        versions.make("b")
        versions.make("c")
        self.assertEqual(versions.undo(), 1)
        self.check(versions, 1, 2, None, 0, 1)
        self.assertEqual((versions.state(), versions.undo(), versions.state()), ("b", 0, "a"))
        self.check(versions, 0, 1, None, 0, 1)
        self.assertEqual(raised(versions.undo), ("NothingToUndo", {}))
        self.check(versions, 0, 1, None, 0, 1)
        self.assertEqual([versions.redo(), versions.redo()], [1, 2])
        self.assertEqual(raised(versions.redo), ("NothingToRedo", {}))
        self.check(versions, 2, None, None, 0, 1)

    def test_a_new_version_behind_an_undo(self):
        versions = Versions("a")
        versions.make("b")
        versions.undo()
        self.assertEqual(versions.make("c"), 2)
        self.check(versions, 2, None, None, 0, 0)
        # What is remembered anew takes the place of the one before.
        self.assertEqual((versions.undo(), versions.remembered()), (0, 2))
        self.assertEqual((versions.redo(), versions.state_of(1)), (2, "b"))

    def test_undo_is_remembered(self):
        versions = Versions("a")
        versions.make("b")
        versions.undo()
        versions.make("c")
        versions.go(1)
        self.assertEqual(self.memory(versions), [1, None, None])
        versions.undo()
        self.check(versions, 0, 1, None, 0, 0)

    def test_go(self):
        versions = Versions("a")
        for state in "bcd":
            versions.make(state)
        versions.go(1)
        self.check(versions, 1, 2, None, 0, 1, 2)
        versions.make("e")
        self.assertEqual(self.memory(versions), [1, 4, 3, None, None])
        self.assertEqual(versions.go(3), 3)
        # The versions on the way remember it; the last one keeps what it remembers.
        self.assertEqual(self.memory(versions), [1, 2, 3, None, None])
        versions.go(4)
        self.assertEqual(self.memory(versions), [1, 4, 3, None, None])
        versions.go(2)
        self.check(versions, 2, 3, None, 0, 1, 2, 1)
        self.assertEqual(self.memory(versions), [1, 2, 3, None, None])
        versions.go(0)
        self.assertEqual((versions.present, self.memory(versions)), (0, [1, 2, 3, None, None]))
        versions.go(0)
        self.assertEqual([versions.redo(), versions.redo(), versions.redo()], [1, 2, 3])

    def test_no_version(self):
        versions = Versions("a")
        versions.make("b")
        versions.undo()
        for function in (versions.go, versions.state_of):
            for version in (-1, -2, 2, 99):
                self.assertEqual(raised(function, version), ("NoVersion", {}))
                self.check(versions, 0, 1, None, 0)

    def test_states_are_kept_as_they_are(self):
        state, other = {"a": []}, [1]
        versions = Versions(state)
        versions.make(other)
        self.assertIs(versions.state(), other)
        self.assertIs(versions.state_of(0), state)
        other.append(2)
        self.assertEqual(versions.state_of(1), [1, 2])

    def test_random_histories(self):
        for seed in range(40):
            rng = random.Random(seed)
            versions, slow = Versions(0), Slow(0)
            for state in range(40):
                step = rng.choice(("make", "make", "undo", "undo", "redo", "go"))
                if step == "make":
                    self.assertEqual(versions.make(state), len(slow.states))
                    slow.make(state)
                elif step == "go":
                    version = rng.randrange(len(slow.states))
                    self.assertEqual(versions.go(version), version)
                    slow.go(version)
                elif (step == "undo" and slow.present == 0) or (step == "redo" and slow.memory.get(slow.present) is None):
                    self.assertEqual(raised(getattr(versions, step)), ("NothingToUndo" if step == "undo" else "NothingToRedo", {}))
                else:
                    getattr(slow, step)()
                    self.assertEqual(getattr(versions, step)(), slow.present)
                self.assertEqual((versions.present, versions.state(), versions.remembered()),
                                 (slow.present, slow.states[slow.present], slow.memory.get(slow.present)))
                self.assertEqual(versions.made_from(), tuple(slow.origins))
                self.assertEqual(self.memory(versions), [slow.memory.get(number) for number in range(len(slow.states))])


if __name__ == "__main__":
    unittest.main()
