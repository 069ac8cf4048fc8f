"""Point 14: operations of live rows reverted, performed again, grouped and tried."""

import random
import unittest

from barrelrow.errors import InvalidNumber, InvalidOperation, UnknownBarrel
from barrelrow.live import LiveRow, Trial
from barrelrow.rows import Row
from tests.plainlive import PlainLive
from tests.samples import example, small_row
from tests.test_live import answer, facts, perform, random_operation

NO_OPERATIONS = (
    (), ("pour",), ("pour", 1, 2), ("scoop",), ("scoop", "top"), ("scoop", "top", 1, 1), ("lock",), ("lock", "top", 1),
    ("unlock",), ("unlock", "top", "end"), ("undo",), ("redo",), ("undo", 1), ("apply_all", []), ("replay", 1),
    ("now",), ("history", 1), ("levels", 1), ("Pour", 1), ("pours", 1), ("", 1), ("_turn", "top"), ("__init__", 1),
)


class Boom(Exception):
    """What a block raises in these tests."""


def random_group(rng, row):
    """Return a list of operations, some of which may be impossible or none at all."""
    operations = [random_operation(rng, row) for _ in range(rng.randint(0, 4))]
    if rng.randrange(6) == 0:
        operations.insert(rng.randint(0, len(operations)), rng.choice(NO_OPERATIONS))
    return operations


class Both(unittest.TestCase):
    """A live row and a plain one that do the same."""

    def check(self):
        self.assertEqual(facts(self.live), self.plain.facts())

    def all_the_way(self):
        """Revert all and perform all again, as far as possible; then return to the present."""
        back = forth = 0
        while True:
            found = self.live.undo()
            self.assertIs(found, self.plain.undo())
            self.check()
            if not found:
                break
            back += 1
        while True:
            found = self.live.redo()
            self.assertIs(found, self.plain.redo())
            self.check()
            if not found:
                break
            forth += 1
        for _ in range(forth - back):
            self.assertIs(self.live.undo(), self.plain.undo())
        self.check()

    def one_step(self, rng):
        way = rng.randrange(20)
        if way < 10:
            operation = random_operation(rng, self.row)
            self.assertEqual(answer(perform, self.live, operation), answer(self.plain.perform, operation))
        elif way < 13:
            self.assertIs(self.live.undo(), self.plain.undo())
        elif way < 15:
            self.assertIs(self.live.redo(), self.plain.redo())
        elif way < 18:
            group = random_group(rng, self.row)
            before = list(group)
            self.assertEqual(answer(self.live.apply_all, group), answer(self.plain.apply_all, group))
            self.assertEqual(group, before)
        elif way == 18:
            self.all_the_way()
        else:
            self.trial(rng)
        self.check()

    def trial(self, rng):
        kept = self.plain.kept()
        raises = rng.randrange(2) == 0
        try:
            with Trial(self.live):
                for _ in range(rng.randint(0, 5)):
                    self.one_step(rng)
                if raises:
                    raise Boom
        except Boom:
            self.assertTrue(raises)
        else:
            self.assertFalse(raises)
        self.plain.restore(kept)
        self.check()

    def test_random_steps(self):
        rng = random.Random(141)
        for _ in range(150):
            self.row = small_row(rng, 1, 4)
            self.live, self.plain = LiveRow(self.row), PlainLive(self.row)
            for _ in range(rng.randint(5, 30)):
                self.one_step(rng)
            self.all_the_way()


class Undoing(unittest.TestCase):
    def setUp(self):
        self.live = LiveRow(example())

    def test_nothing_to_revert(self):
        self.assertIs(self.live.undo(), False)
        self.assertIs(self.live.redo(), False)
        self.live.pour(3)
        self.assertIs(self.live.redo(), False)
        self.assertEqual([self.live.undo(), self.live.undo()], [True, False])
        self.assertEqual([self.live.redo(), self.live.redo()], [True, False])
        self.assertEqual(self.live.levels, {"top": 3, "end": 1})

    def test_all_kinds_of_operations(self):
        seen = [facts(self.live)]
        for operation in (("pour", 9), ("lock", "end"), ("scoop", "top", 2), ("pour", 0), ("lock", "end"),
                          ("unlock", "end"), ("unlock", "end"), ("scoop", "end", 9), ("scoop", "end", 9)):
            perform(self.live, operation)
            seen.append(facts(self.live))
        for _ in range(2):
            for before in reversed(seen[:-1]):
                self.assertIs(self.live.undo(), True)
                self.assertEqual(facts(self.live), before)
            self.assertIs(self.live.undo(), False)
            for after in seen[1:]:
                self.assertIs(self.live.redo(), True)
                self.assertEqual(facts(self.live), after)
            self.assertIs(self.live.redo(), False)

    def test_an_operation_that_changes_nothing_is_reverted_alone(self):
        self.live.lock("top")
        self.live.lock("top")
        self.live.scoop("end", 5)
        self.assertEqual([self.live.undo(), self.live.undo()], [True, True])
        self.assertEqual([self.live.locked_names, self.live.history], [["top"], [("lock", "top")]])

    def test_redo_ends_after_another_operation(self):
        for operation in (("pour", 0), ("scoop", "top", 1), ("lock", "top"), ("unlock", "top")):
            live = LiveRow.replay(example(), ("pour", 3), ("pour", 4))
            live.undo()
            perform(live, operation)
            self.assertIs(live.redo(), False)
            self.assertEqual(live.history, [("pour", 3), operation])

    def test_redo_stays_possible_after_an_operation_that_failed(self):
        self.live.pour(3)
        self.live.undo()
        for operation in (("pour", -1), ("scoop", "mid", 1), ("scoop", "top", 0), ("lock", "mid"), ("unlock", "mid")):
            self.assertIsInstance(answer(perform, self.live, operation), tuple)
        self.assertIsInstance(answer(self.live.apply_all, [("lock", "top"), ("lock", "mid")]), tuple)
        self.assertEqual(self.live.apply_all([]), [])
        self.assertIs(self.live.redo(), True)
        self.assertEqual([self.live.now, self.live.redo()], [1, False])

    def test_undo_and_redo_are_no_part_of_the_history(self):
        self.live.pour(3)
        self.live.undo()
        self.assertEqual(self.live.history, [])
        self.live.redo()
        self.assertEqual(self.live.history, [("pour", 3)])


class Grouping(unittest.TestCase):
    def setUp(self):
        self.live = LiveRow.replay(example(), ("pour", 9), ("lock", "top"), ("pour", 1))
        self.live.undo()

    def check_unchanged(self):
        self.assertEqual(self.live.history, [("pour", 9), ("lock", "top")])
        self.assertEqual([self.live.now, self.live.levels], [1, {"top": 4, "end": 1}])
        self.assertEqual([self.live.lost_water, self.live.missed_water, self.live.locked_names], [12, 0, ["top"]])

    def test_results(self):
        results = self.live.apply_all(operations=[("pour", 3), ("scoop", "top", 3), ("lock", "top"), ("unlock", "top"),
                                                  ("lock", "end")])
        self.assertEqual(results, [5, 3, False, True, True])
        self.assertIs(type(results), list)
        self.assertIs(self.live.redo(), False)
        self.assertEqual([self.live.undo(), self.live.locked_names], [True, []])

    def test_no_operation(self):
        for wrong in NO_OPERATIONS:
            for before in ([], [("pour", 3)], [("scoop", "mid", 0), ("pour", -1)]):
                with self.assertRaises(InvalidOperation) as caught:
                    self.live.apply_all(before + [wrong, ("pour",)])
                self.assertEqual(caught.exception.index, len(before))
                self.check_unchanged()
        self.assertIs(self.live.redo(), True)

    def test_impossible_operations(self):
        for wrong, error in ((("pour", -1), InvalidNumber), (("pour", 10 ** 6 + 1), InvalidNumber),
                             (("scoop", "top", 0), InvalidNumber), (("scoop", "mid", 0), UnknownBarrel),
                             (("lock", "mid"), UnknownBarrel), (("unlock", "mid"), UnknownBarrel)):
            for before in ([], [("pour", 3), ("unlock", "top")]):
                with self.assertRaises(error):
                    self.live.apply_all(before + [wrong, ("pour", 2)])
                self.check_unchanged()
        self.assertIs(self.live.redo(), True)
        self.assertEqual(self.live.history, [("pour", 9), ("lock", "top"), ("pour", 1)])

    def test_the_first_impossible_one(self):
        with self.assertRaises(UnknownBarrel) as caught:
            self.live.apply_all([("pour", 1), ("lock", "one"), ("lock", "two"), ("pour", -1)])
        self.assertEqual(caught.exception.name, "one")


class Replaying(unittest.TestCase):
    def test_the_history_leads_to_the_same(self):
        rng = random.Random(142)
        for _ in range(100):
            row = small_row(rng)
            live = LiveRow(row)
            for _ in range(20):
                answer(perform, live, random_operation(rng, row))
            again = LiveRow.replay(row, *live.history)
            self.assertIs(type(again), LiveRow)
            self.assertEqual(facts(again), facts(live))
            self.assertIs(again.redo(), False)
            while live.undo():
                self.assertIs(again.undo(), True)
                self.assertEqual(facts(again), facts(live))
            self.assertIs(again.undo(), False)

    def test_without_operations(self):
        self.assertEqual(facts(LiveRow.replay(example())), facts(LiveRow(example())))

    def test_errors(self):
        with self.assertRaises(InvalidOperation) as caught:
            LiveRow.replay(example(), ("pour", -1), ("pour", 3), ("redo",))
        self.assertEqual(caught.exception.index, 2)
        with self.assertRaises(UnknownBarrel):
            LiveRow.replay(example(), ("pour", 3), ("scoop", "mid", -1))
        with self.assertRaises(InvalidNumber):
            LiveRow.replay(example(), ("pour", 3), ("scoop", "top", -1))


class Trying(unittest.TestCase):
    def setUp(self):
        self.live = LiveRow.replay(example(), ("pour", 9), ("lock", "top"), ("pour", 1), ("pour", 2))
        self.live.undo()
        self.live.undo()
        self.before = facts(self.live)

    def check_restored(self):
        self.assertEqual(facts(self.live), self.before)
        self.assertEqual([self.live.redo(), self.live.redo(), self.live.redo()], [True, True, False])
        self.assertEqual(self.live.history, [("pour", 9), ("lock", "top"), ("pour", 1), ("pour", 2)])
        self.assertEqual([self.live.undo() for _ in range(5)], [True, True, True, True, False])

    def test_a_block(self):
        with Trial(self.live):
            self.assertEqual(facts(self.live), self.before)
            self.live.pour(5)
            self.live.unlock("top")
            self.assertEqual(self.live.now, 2)
        self.check_restored()

    def test_undo_and_redo_in_a_block(self):
        with Trial(live=self.live):
            self.live.redo()
            self.live.undo()
            self.live.undo()
            self.live.undo()
            self.live.scoop("top", 1)
        self.check_restored()

    def test_a_block_that_raises(self):
        with self.assertRaises(InvalidNumber):
            with Trial(self.live):
                self.live.pour(5)
                self.live.pour(-5)
        self.check_restored()

    def test_a_block_that_returns(self):
        def told():
            with Trial(self.live):
                return self.live.pour(5)
        self.assertEqual(told(), 9)
        self.check_restored()

    def test_one_in_another(self):
        with Trial(self.live):
            self.live.pour(5)
            self.live.undo()
            inner = facts(self.live)
            with Trial(self.live):
                self.live.redo()
                self.live.lock("end")
                with self.assertRaises(Boom):
                    with Trial(self.live):
                        self.live.undo()
                        raise Boom
                self.assertEqual(self.live.history[-1], ("lock", "end"))
            self.assertEqual(facts(self.live), inner)
            self.assertEqual([self.live.redo(), self.live.redo()], [True, False])
            self.assertEqual(self.live.history[-1], ("pour", 5))
        self.check_restored()

    def test_one_trial_used_again(self):
        trial = Trial(self.live)
        self.live.redo()
        after = facts(self.live)
        for _ in range(2):
            with trial:
                self.live.pour(1)
                with trial:
                    self.live.undo()
                    self.live.undo()
                self.assertEqual(self.live.history, after[-1] + [("pour", 1)])
            self.assertEqual(facts(self.live), after)
        self.live.undo()
        self.check_restored()

    def test_apply_all_in_a_block(self):
        with Trial(self.live):
            self.live.apply_all([("pour", 1), ("lock", "end")])
            with self.assertRaises(UnknownBarrel):
                self.live.apply_all([("unlock", "end"), ("lock", "mid")])
            self.assertEqual(self.live.locked_names, ["top", "end"])
        self.check_restored()


class Long(unittest.TestCase):
    def test_many_operations(self):
        live = LiveRow(Row((0,), ("a", 10 ** 9, 1, (0,))))
        for _ in range(5000):
            live.pour(1)
        self.assertEqual([live.now, live.levels, len(live.history)], [5000, {"a": 5000}, 5000])
        while live.undo():
            pass
        self.assertEqual([live.now, live.levels, live.history], [0, {"a": 0}, []])
        while live.redo():
            pass
        self.assertEqual([live.now, live.levels, len(live.history)], [5000, {"a": 5000}, 5000])


if __name__ == "__main__":
    unittest.main()
