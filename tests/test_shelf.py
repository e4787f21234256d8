import random
import unittest

from trothbase.errors import PowerOff
from trothbase.shelf import Shelf


def shelf_with(lasting, waiting):
    shelf = Shelf()
    for record in lasting:
        shelf.append(record)
    shelf.sync()
    for record in waiting:
        shelf.append(record)
    return shelf


class ShelfTest(unittest.TestCase):
    def check(self, shelf, records, pending, losses=0, is_on=True):
        self.assertEqual(shelf.records(), records)
        self.assertEqual(shelf.pending(), pending)
        self.assertEqual(shelf.losses(), losses)
        self.assertIs(shelf.is_on(), is_on)

    def test_an_empty_shelf(self):
        self.check(Shelf(), [], 0)

    def test_append_and_sync(self):
        shelf = Shelf()
        self.assertIsNone(shelf.append(("a",)))
        self.check(shelf, [("a",)], 1)
        shelf.append(("b",))
        self.check(shelf, [("a",), ("b",)], 2)
        self.assertIsNone(shelf.sync())
        self.check(shelf, [("a",), ("b",)], 0)
        shelf.append(None)
        self.check(shelf, [("a",), ("b",), None], 1)
        shelf.sync()
        shelf.sync()
        self.check(shelf, [("a",), ("b",), None], 0)

    def test_the_same_record_twice(self):
        self.check(shelf_with([1, 1], [1, True]), [1, 1, 1, True], 2)

    def test_any_plain_value_is_a_record(self):
        records = [None, True, 0, "", "abc", (), ((1, "a"), None)]
        shelf = shelf_with(records, records)
        self.check(shelf, records * 2, len(records))
        self.assertEqual([type(record) for record in shelf.records()], [type(record) for record in records * 2])

    def test_a_loss_of_power_with_none_some_and_all_arriving(self):
        for kept, found in [(0, [1, 2]), (1, [1, 2, 3]), (2, [1, 2, 3, 4]), (3, [1, 2, 3, 4, 5]), (9, [1, 2, 3, 4, 5])]:
            shelf = shelf_with([1, 2], [3, 4, 5])
            self.assertIsNone(shelf.power(kept))
            self.check(shelf, found, 0, losses=1)
            shelf.power(0)
            self.check(shelf, found, 0, losses=2)
            shelf.append(6)
            self.check(shelf, [*found, 6], 1, losses=2)

    def test_power_that_fails_while_nothing_waits(self):
        shelf = shelf_with([1], [])
        shelf.power(5)
        self.check(shelf, [1], 0, losses=1)

    def test_power_off(self):
        shelf = shelf_with([1], [2, 3])
        self.assertIsNone(shelf.fail_after(0))
        self.assertRaises(PowerOff, shelf.append, 4)
        self.check(shelf, [1, 2, 3], 2, losses=1, is_on=False)
        for _ in range(2):
            self.assertRaises(PowerOff, shelf.append, 5)
            self.assertRaises(PowerOff, shelf.sync)
            self.assertRaises(PowerOff, shelf.fail_after, 3)
            self.check(shelf, [1, 2, 3], 2, losses=1, is_on=False)
        shelf.power(1)
        self.check(shelf, [1, 2], 0, losses=1)
        shelf.append(6)
        shelf.sync()
        self.check(shelf, [1, 2, 6], 0, losses=1)

    def test_power_comes_back_with_none_some_and_all(self):
        for kept, found in [(0, [1]), (1, [1, 2]), (2, [1, 2, 3]), (3, [1, 2, 3])]:
            shelf = shelf_with([1], [2, 3])
            shelf.fail_after(0)
            self.assertRaises(PowerOff, shelf.sync)
            self.check(shelf, [1, 2, 3], 2, losses=1, is_on=False)
            shelf.power(kept)
            self.check(shelf, found, 0, losses=1)

    def test_fail_after_each_number_of_operations(self):
        for after in range(7):
            shelf = Shelf()
            shelf.fail_after(after)
            for done in range(7):
                operation = shelf.sync if done % 3 == 2 else lambda: shelf.append(done)
                if done < after:
                    operation()
                    self.assertIs(shelf.is_on(), True)
                else:
                    before, pending = shelf.records(), shelf.pending()
                    self.assertRaises(PowerOff, operation)
                    self.check(shelf, before, pending, losses=1, is_on=False)

    def test_what_is_no_operation(self):
        shelf = shelf_with([], [1])
        shelf.fail_after(1)
        for _ in range(3):
            self.check(shelf, [1], 1)
        shelf.append(2)
        self.assertRaises(PowerOff, shelf.sync)

    def test_a_later_call_takes_the_place(self):
        shelf = Shelf()
        shelf.fail_after(0)
        shelf.fail_after(2)
        shelf.append(1)
        shelf.fail_after(1)
        shelf.append(2)
        self.assertRaises(PowerOff, shelf.append, 3)
        self.check(shelf, [1, 2], 2, losses=1, is_on=False)
        shelf.power(9)
        for record in range(5):
            shelf.append(record)
        self.check(shelf, [1, 2, 0, 1, 2, 3, 4], 5, losses=1)

    def test_a_loss_of_power_takes_the_place(self):
        shelf = Shelf()
        shelf.append(1)
        shelf.fail_after(1)
        shelf.power(1)
        for record in range(5):
            shelf.append(record)
        self.check(shelf, [1, 0, 1, 2, 3, 4], 5, losses=1)
        shelf.fail_after(1)
        shelf.sync()
        self.assertRaises(PowerOff, shelf.sync)
        self.check(shelf, [1, 0, 1, 2, 3, 4], 0, losses=2, is_on=False)

    def test_a_list_that_the_caller_changes(self):
        shelf = shelf_with([1], [2])
        for records in [shelf.records(), shelf.records()]:
            records.append(9)
            records[0] = 8
            self.check(shelf, [1, 2], 1)
        shelf.sync()
        shelf.records().clear()
        self.check(shelf, [1, 2], 0)

    def test_many_operations(self):
        """Compared with a telling of lists."""
        for seed in range(60):
            chance = random.Random(seed)
            shelf, lasting, waiting, losses, is_on, left = Shelf(), [], [], 0, True, None
            for at in range(80):
                luck = chance.random()
                if luck < 0.1:
                    kept = chance.randrange(4)
                    losses += is_on
                    shelf.power(kept)
                    lasting, waiting, is_on = lasting + waiting[:kept], [], True
                    left = None
                elif luck < 0.25 and is_on:
                    left = chance.randrange(6)
                    shelf.fail_after(left)
                elif not is_on or left == 0:
                    losses += is_on
                    is_on, left = False, None
                    self.assertRaises(PowerOff, lambda: shelf.append(at) if luck < 0.7 else shelf.sync())
                else:
                    left = None if left is None else left - 1
                    if luck < 0.7:
                        shelf.append(at)
                        waiting = waiting + [at]
                    else:
                        shelf.sync()
                        lasting, waiting = lasting + waiting, []
                self.check(shelf, lasting + waiting, len(waiting), losses, is_on)


if __name__ == "__main__":
    unittest.main()
