import unittest
from random import Random

from oddcents.errors import InvalidBill, InvalidEvening, InvalidMark, InvalidNumber, InvalidOperation, UnknownSeat
from oddcents.ledger import Ledger, Trial
from oddcents.shares import Shares

from ledgers import Reckoning, busy, plain, state, whole
from tables import raised, seat_sets

# Wrong operations of the right form, with their errors at a table of three.
REFUSED = [(("lay", 3, 10, 0), UnknownSeat), (("lay", 0, -1, 0), InvalidBill), (("lay", 0, 10), InvalidBill),
           (("lay", 0, 10, 0, 3), InvalidBill), (("hand", 0, 3, 5), UnknownSeat), (("hand", 1, 1, 5), InvalidNumber),
           (("hand", 0, 1, 0), InvalidNumber), (("move", 3), UnknownSeat), (("move", -1), UnknownSeat)]

# Tuples that are no operations.
MALFORMED = [(), ("",), ("Lay", 0, 10, 0), ("lay",), ("lay", 0), ("hand",), ("hand", 0, 1), ("hand", 0, 1, 5, 6),
             ("move",), ("move", 1, 2), ("settle", 1), ("undo", 1), ("redo", 1), ("apply_all", []), ("balance",),
             ("mark_now",), ("history",), ("replay", 3, 0), ("keep",), ("__init__", 3), ("see", 1, 2, 3), (0, 1),
             (None,), (("move", 1),)]


def random_operation(chance, seat_count):
    kind = chance.choice(("lay", "lay", "lay", "hand", "move", "settle", "undo", "undo", "redo", "redo"))
    seat = chance.randrange(seat_count)
    if kind == "lay":
        return (kind, seat, chance.choice((0, 1, 5, 100, 10 ** 12, chance.randrange(1000))),
                *chance.choice(seat_sets(seat_count)))
    if kind == "hand":
        return (kind, *chance.sample(range(seat_count), 2), chance.choice((1, 50, 10 ** 15)))
    return (kind, seat) if kind == "move" else (kind,)


def done(ledger, operation):
    """The result of an operation that is executed by its method."""
    name, *arguments = operation
    return plain(getattr(ledger, name)(*arguments))


class UndoTests(unittest.TestCase):
    def test_examples(self):
        ledger = Ledger(3)
        ledger.move(2)
        self.assertEqual([ledger.undo(), ledger.mark_now, ledger.undo()], [True, 0, False])
        ledger = Ledger(3)
        ledger.move(2)
        ledger.undo()
        self.assertEqual([ledger.redo(), ledger.mark_now], [True, 2])

    def test_nothing_to_undo_or_redo(self):
        for seat_count in range(2, 9):
            ledger = Ledger(seat_count, mark=1)
            for action in (ledger.undo, ledger.redo, ledger.undo):
                self.assertIs(action(), False)
                self.assertEqual(state(ledger), [(0,) * seat_count, 1, []])

    def test_each_operation(self):
        for operation in [("lay", 1, 100, 0, 1, 2), ("hand", 0, 2, 7), ("move", 2), ("move", 0), ("settle",)]:
            ledger = Ledger(3)
            ledger.lay(0, 1000, 0, 1)
            before = state(ledger)
            done(ledger, operation)
            after = state(ledger)
            self.assertEqual(after[2], [*before[2], operation])
            self.assertIs(ledger.undo(), True)
            self.assertEqual(state(ledger), before)
            self.assertIs(ledger.redo(), True)
            self.assertEqual(state(ledger), after)
            self.assertIs(ledger.redo(), False)
            self.assertEqual(state(ledger), after)

    def test_several_operations(self):
        ledger = Ledger(3)
        states = [state(ledger)]
        for operation in [("lay", 0, 1000, 0, 1, 2), ("hand", 1, 0, 50), ("move", 0), ("settle",), ("lay", 2, 5, 0, 1)]:
            done(ledger, operation)
            states.append(state(ledger))
        for before in states[-2::-1]:
            self.assertIs(ledger.undo(), True)
            self.assertEqual(state(ledger), before)
        self.assertIs(ledger.undo(), False)
        for after in states[1:]:
            self.assertIs(ledger.redo(), True)
            self.assertEqual(state(ledger), after)
        self.assertIs(ledger.redo(), False)

    def test_nothing_is_redone_after_an_operation(self):
        for operation in [("lay", 1, 100, 0), ("hand", 0, 2, 7), ("move", 2), ("settle",)]:
            ledger = busy()
            ledger.undo()
            done(ledger, operation)
            after = state(ledger)
            self.assertIs(ledger.redo(), False)
            self.assertEqual(state(ledger), after)
            self.assertEqual([ledger.undo(), ledger.redo(), state(ledger)], [True, True, after])

    def test_what_was_undone_can_be_redone_after_an_error(self):
        for operation, kind in REFUSED:
            ledger = busy()
            raised(kind, lambda: done(ledger, operation))
            self.assertIs(ledger.redo(), True)
            self.assertEqual(ledger.history[-1], ("lay", 2, 11, 0, 2))

    def test_undo_that_has_nothing_to_undo_leaves_what_can_be_redone(self):
        ledger = Ledger(2)
        ledger.move(1)
        self.assertEqual([ledger.undo(), ledger.undo(), ledger.redo(), ledger.redo()], [True, False, True, False])
        self.assertEqual(state(ledger), [(0, 0), 1, [("move", 1)]])


class ApplyTests(unittest.TestCase):
    def test_examples(self):
        ledger = Ledger(3)
        self.assertEqual(ledger.apply_all([("move", 2), ("undo",)]), [0, True])
        self.assertEqual(raised(InvalidOperation, lambda: Ledger(3).apply_all([("move", 2), ("lay", 0)])).index, 1)

    def test_all_results(self):
        ledger = Ledger(3)
        results = ledger.apply_all([("lay", 0, 1001, 0, 1), ("hand", 1, 0, 300), ("move", 2), ("settle",), ("undo",),
                                    ("redo",), ("redo",), ("lay", 1, 1, 0, 1, 2)])
        self.assertIsInstance(results, list)
        self.assertEqual(results, [Shares(500, 501, 0), (-201, 201), 1, [(1, 0, 201)], True, True, False,
                                   Shares(1, 0, 0)])
        self.assertEqual(state(ledger), [(-1, 1, 0), 0, [("lay", 0, 1001, 0, 1), ("hand", 1, 0, 300), ("move", 2),
                                                         ("settle",), ("lay", 1, 1, 0, 1, 2)]])

    def test_no_operations(self):
        for ledger in (Ledger(2), busy()):
            before = whole(ledger)
            self.assertEqual(ledger.apply_all([]), [])
            self.assertEqual(whole(ledger), before)

    def test_operations_are_undone_one_by_one(self):
        ledger = Ledger(3)
        ledger.apply_all([("move", 1), ("move", 2)])
        self.assertEqual([ledger.undo(), ledger.mark_now], [True, 1])
        self.assertEqual([ledger.undo(), ledger.mark_now, ledger.undo()], [True, 0, False])

    def test_what_was_done_before_can_be_undone_and_redone(self):
        ledger = busy()
        results = ledger.apply_all([("redo",), ("undo",), ("undo",), ("undo",), ("undo",), ("undo",), ("redo",)])
        self.assertEqual(results, [True, True, True, True, True, False, True])
        self.assertEqual(ledger.history, [("lay", 0, 1000, 0, 1, 2)])

    def test_errors_of_operations(self):
        for operation, kind in REFUSED:
            for others in ([], [("move", 2)], [("lay", 1, 10, 0, 1), ("settle",)], [("redo",), ("move", 1)],
                           [("undo",), ("undo",)], [("undo",), ("move", 2), ("undo",)]):
                for behind in ([], [("move", 0)], [("hand", 2, 2, 2)]):
                    ledger = busy()
                    before = whole(ledger)
                    with self.subTest(operation=operation, others=others, behind=behind):
                        raised(kind, lambda: ledger.apply_all([*others, operation, *behind]))
                        self.assertEqual(whole(ledger), before)

    def test_the_attributes_of_the_errors(self):
        for operation, index in [(("lay", 0, -1, 0), -1), (("lay", 0, 10), 0), (("lay", 0, 10, 0, 3), 1),
                                 (("lay", 0, 10, 2, 1), 1)]:
            error = raised(InvalidBill, lambda: busy().apply_all([("move", 1), operation, ("lay", 9, 9)]))
            self.assertEqual(error.index, index)

    def test_the_first_error_is_raised(self):
        ledger = busy()
        raised(UnknownSeat, lambda: ledger.apply_all([("move", 3), ("hand", 1, 1, 5)]))
        raised(InvalidNumber, lambda: ledger.apply_all([("hand", 1, 1, 5), ("move", 3)]))

    def test_malformed_operations(self):
        for operation in MALFORMED:
            for others in ([], [("move", 2)], [("undo",), ("move", 3)], [("redo",), ("settle",), ("lay", 0, 5)]):
                for behind in ([], [("move", 0)], [("no",), ()]):
                    ledger = busy()
                    before = whole(ledger)
                    with self.subTest(operation=operation, others=others, behind=behind):
                        error = raised(InvalidOperation, lambda: ledger.apply_all([*others, operation, *behind]))
                        self.assertEqual(error.index, len(others))
                        self.assertEqual(whole(ledger), before)

    def test_two_arguments_are_enough_for_lay(self):
        self.assertEqual(raised(InvalidBill, lambda: Ledger(3).apply_all([("lay", 0, 5)])).index, 0)
        self.assertEqual(Ledger(8).apply_all([("lay", 0, 8, 0, 1, 2, 3, 4, 5, 6, 7)]), [Shares(*[1] * 8)])

    def test_the_caller_may_change_all_lists(self):
        ledger = Ledger(3)
        operations = [("hand", 0, 1, 5), ("settle",)]
        results = ledger.apply_all(operations)
        self.assertEqual(operations, [("hand", 0, 1, 5), ("settle",)])
        before = whole(ledger)
        operations[0] = ("move", 2)
        operations.append(("move", 2))
        results[1].clear()
        results.clear()
        self.assertEqual(whole(ledger), before)
        self.assertEqual(ledger.history, [("hand", 0, 1, 5), ("settle",)])

    def test_its_own_history_once_more(self):
        ledger = Ledger(3)
        ledger.apply_all([("lay", 0, 1000, 0, 1, 2), ("move", 2), ("lay", 1, 7, 0, 1)])
        history = ledger.history
        ledger.apply_all(history)
        self.assertEqual(ledger.history, history + history)
        again = Ledger(3)
        again.apply_all(ledger.history)
        self.assertEqual(state(again), state(ledger))


class ReplayTests(unittest.TestCase):
    def test_example(self):
        self.assertEqual(Ledger.replay(2, 0, ("lay", 0, 101, 0, 1)).balance.cents, (51, -51))

    def test_no_operations(self):
        for seat_count in range(2, 9):
            for mark in range(seat_count):
                ledger = Ledger.replay(seat_count, mark)
                self.assertIsInstance(ledger, Ledger)
                self.assertEqual(whole(ledger), ([[(0,) * seat_count, mark, []]], 0))

    def test_what_can_be_undone_and_redone(self):
        ledger = Ledger.replay(3, 1, ("lay", 0, 1000, 0, 1, 2), ("hand", 1, 0, 50), ("move", 0), ("lay", 2, 11, 0, 2),
                               ("undo",))
        self.assertEqual(whole(ledger), whole(busy()))

    def test_the_history_of_another_one(self):
        for seed in range(10):
            chance = Random(seed)
            ledger = Ledger(5, mark=seed % 5)
            for _ in range(40):
                done(ledger, random_operation(chance, 5))
            again = Ledger.replay(5, seed % 5, *ledger.history)
            self.assertEqual(state(again), state(ledger))

    def test_errors_in_order(self):
        for seat_count in (-1, 1, 9):
            error = raised(InvalidEvening, lambda: Ledger.replay(seat_count, 9, ("no",)))
            self.assertEqual(error.index, -1)
        for mark in (-1, 3):
            raised(InvalidMark, lambda: Ledger.replay(3, mark, ("no",)))
        for operation in MALFORMED:
            error = raised(InvalidOperation, lambda: Ledger.replay(3, 0, ("move", 3), ("move", 1), operation, ("no",)))
            self.assertEqual(error.index, 2)
        for operation, kind in REFUSED:
            raised(kind, lambda: Ledger.replay(3, 0, ("move", 1), operation, ("hand", 9, 9, 9)))


class TrialTests(unittest.TestCase):
    def test_all_is_as_before(self):
        for operations in [[], [("move", 2)], [("undo",)], [("undo",), ("undo",), ("undo",)], [("redo",)],
                           [("undo",), ("move", 2), ("lay", 0, 5, 0, 1)],
                           [("settle",), ("undo",), ("undo",), ("redo",)]]:
            ledger = busy()
            before = whole(ledger)
            with Trial(ledger) as trial:
                self.assertIsInstance(trial, Trial)
                self.assertEqual(whole(ledger), before)
                for operation in operations:
                    done(ledger, operation)
            with self.subTest(operations=operations):
                self.assertEqual(whole(ledger), before)

    def test_what_is_done_in_the_block_has_effect_there(self):
        ledger = Ledger(3)
        with Trial(ledger):
            ledger.lay(0, 1000, 0, 1, 2)
            self.assertEqual(state(ledger), [(667, -334, -333), 1, [("lay", 0, 1000, 0, 1, 2)]])
        self.assertEqual(state(ledger), [(0, 0, 0), 0, []])

    def test_kept(self):
        for operations in [[], [("move", 2)], [("undo",), ("move", 2)], [("redo",), ("settle",), ("undo",)]]:
            for place in range(len(operations) + 1):
                ledger, other = busy(), busy()
                with Trial(ledger) as trial:
                    for operation in operations[:place]:
                        done(ledger, operation)
                    trial.keep()
                    for operation in operations[place:]:
                        done(ledger, operation)
                for operation in operations:
                    done(other, operation)
                with self.subTest(operations=operations, place=place):
                    self.assertEqual(whole(ledger), whole(other))

    def test_kept_twice(self):
        ledger = Ledger(3)
        with Trial(ledger) as trial:
            trial.keep()
            ledger.move(2)
            trial.keep()
        self.assertEqual(state(ledger), [(0, 0, 0), 2, [("move", 2)]])

    def test_a_ledger_goes_on_after_the_block(self):
        for kept in (False, True):
            ledger = busy()
            with Trial(ledger) as trial:
                ledger.move(2)
                if kept:
                    trial.keep()
            ledger.lay(0, 5, 0, 1)
            self.assertEqual(ledger.history[3:], [("move", 2)] * kept + [("lay", 0, 5, 0, 1)])
            self.assertIs(ledger.redo(), False)
            for _ in ledger.history:
                self.assertIs(ledger.undo(), True)
            self.assertEqual(state(ledger), [(0, 0, 0), 1, []])

    def test_errors_leave_the_block(self):
        ledger = busy()
        before = whole(ledger)
        with self.assertRaises(UnknownSeat):
            with Trial(ledger):
                ledger.move(2)
                ledger.move(3)
        self.assertEqual(whole(ledger), before)
        with self.assertRaises(KeyError):
            with Trial(ledger) as trial:
                ledger.move(2)
                trial.keep()
                raise KeyError
        self.assertEqual(ledger.history[3:], [("move", 2)])

    def test_return_leaves_the_block(self):
        def tried(ledger):
            with Trial(ledger):
                return ledger.lay(0, 7, 0, 1, 2).cents

        ledger = Ledger(3)
        self.assertEqual(tried(ledger), (2, 3, 2))
        self.assertEqual(state(ledger), [(0, 0, 0), 0, []])

    def test_blocks_in_blocks(self):
        for outer_kept in (False, True):
            for inner_kept in (False, True):
                for first in (False, True):
                    ledger = busy()
                    before = whole(ledger)
                    with Trial(ledger) as outer:
                        if outer_kept and first:
                            outer.keep()
                        ledger.move(2)
                        with Trial(ledger) as inner:
                            ledger.move(1)
                            if inner_kept:
                                inner.keep()
                        ledger.move(0)
                        if outer_kept and not first:
                            outer.keep()
                    moves = [("move", 2)] + [("move", 1)] * inner_kept + [("move", 0)]
                    with self.subTest(outer_kept=outer_kept, inner_kept=inner_kept, first=first):
                        if outer_kept:
                            self.assertEqual(ledger.history[3:], moves)
                        else:
                            self.assertEqual(whole(ledger), before)

    def test_one_trial_for_several_blocks(self):
        ledger = Ledger(3)
        trial = Trial(ledger)
        trial.keep()
        with trial:
            ledger.move(2)
        self.assertEqual(ledger.history, [])
        with trial:
            ledger.move(1)
            trial.keep()
        self.assertEqual(ledger.history, [("move", 1)])
        with trial:
            ledger.move(2)
        self.assertEqual(ledger.history, [("move", 1)])
        ledger.move(0)
        self.assertEqual(state(ledger), [(0, 0, 0), 0, [("move", 1), ("move", 0)]])

    def test_the_block_begins_when_it_is_entered(self):
        ledger = Ledger(3)
        trial = Trial(ledger)
        ledger.move(2)
        with trial:
            ledger.move(1)
        self.assertEqual(ledger.history, [("move", 2)])

    def test_lists_of_operations_in_a_block(self):
        ledger = busy()
        before = whole(ledger)
        with Trial(ledger):
            ledger.apply_all([("undo",), ("move", 2)])
            raised(UnknownSeat, lambda: ledger.apply_all([("undo",), ("undo",), ("move", 3)]))
            self.assertEqual(ledger.history[2:], [("move", 2)])
        self.assertEqual(whole(ledger), before)
        with Trial(ledger) as trial:
            ledger.apply_all([("undo",), ("move", 2)])
            trial.keep()
        self.assertEqual(ledger.history[2:], [("move", 2)])


class RowTests(unittest.TestCase):
    """Long random rows of operations, against a plain reckoning with a row of states."""

    def step(self, chance, ledger, reckoning):
        """Execute one operation, a list of some, a list with a wrong one at its end, or a block."""
        kind = chance.randrange(10)
        operations = [random_operation(chance, reckoning.seat_count) for _ in range(chance.randint(0, 6))]
        if kind < 7:
            operation = random_operation(chance, reckoning.seat_count)
            self.assertEqual(done(ledger, operation), reckoning.execute(*operation))
        elif kind == 7:
            results = ledger.apply_all(operations)
            self.assertEqual([plain(result) for result in results],
                             [reckoning.execute(*operation) for operation in operations])
        elif kind == 8:
            raised(UnknownSeat, lambda: ledger.apply_all([*operations, ("move", reckoning.seat_count)]))
            raised(InvalidOperation, lambda: ledger.apply_all([*operations, ("move",)]))
        else:
            self.block(chance, ledger, reckoning, operations)

    def block(self, chance, ledger, reckoning, operations):
        tried = reckoning.copy()
        kept = chance.random() < 0.5
        with Trial(ledger) as trial:
            for operation in operations:
                self.assertEqual(done(ledger, operation), tried.execute(*operation))
                self.assertEqual(state(ledger), tried.now())
            if kept:
                trial.keep()
        if kept:
            reckoning.row, reckoning.at = tried.row, tried.at

    def test_long_rows(self):
        for seat_count in range(2, 9):
            for seed in range(3):
                chance = Random(1000 * seat_count + seed)
                mark = chance.randrange(seat_count)
                ledger, reckoning = Ledger(seat_count, mark=mark), Reckoning(seat_count, mark)
                for number in range(250):
                    with self.subTest(seat_count=seat_count, seed=seed, number=number):
                        self.step(chance, ledger, reckoning)
                        self.assertEqual(state(ledger), reckoning.now())
                self.assertEqual(whole(ledger), (reckoning.row, reckoning.at))
                self.assertGreater(len(reckoning.row), 10)


if __name__ == "__main__":
    unittest.main()
