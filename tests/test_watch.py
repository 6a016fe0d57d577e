"""What a watch records, when it stops, and replay."""

import random
import unittest

from escheat.errors import StoreError
from escheat.memory import Store, Watch, replay
from tests.store_model import deeds, do


class WatchTest(unittest.TestCase):
    def setUp(self):
        self.store = Store()

    def test_each_deed(self):
        with Watch(self.store) as watch:
            self.assertEqual(watch.log, [])
            self.store.begin()
            self.store.begin()
            self.store.cell(1, 3)
            self.store.cell(1, 3)
            self.store.write(4, 50)
            self.store.read(4)
            self.store.cell(0, 9)
            self.store.end(1)
            self.store.read(4)
            self.store.write(4, 7)
        self.assertEqual(watch.log, [
            ("begin", 0, 0), ("begin", 1, 0), ("cell", 1, 0), ("cell", 1, 3), ("write", 1, 4), ("read", 1, 4),
            ("cell", 0, 8), ("end", 1, 0), ("read", -1, 4), ("write", -1, 4),
        ])

    def test_reads_and_writes_at_every_address(self):
        self.store.begin()
        self.store.cell(0, 1)
        addresses = (-10 ** 30, -9, -8, -1, 0, 7, 8, 9, 10 ** 30)
        with Watch(self.store) as watch:
            for address in addresses:
                self.store.read(address)
                self.store.write(address, 1)
        owners = [0 if address in (0, 7) else -1 for address in addresses]
        self.assertEqual(watch.log, [
            (what, owner, address) for address, owner in zip(addresses, owners) for what in ("read", "write")])

    def test_questions_and_refused_calls_are_not_recorded(self):
        self.store.begin()
        with Watch(self.store) as watch:
            for deed in (("cell", 5, 3), ("cell", 0, 0), ("end", 1), ("end", -1)):
                self.assertIn(do(self.store, deed), ("region", "words"))
            self.assertEqual((self.store.held, self.store.pages, self.store.waiting, len(self.store)), (0, 0, 0, 0))
            self.assertEqual((list(self.store), list(self.store.current()), 0 in self.store), ([], [0], False))
            self.assertEqual(self.store.owner(0), -1)
        self.assertEqual(watch.log, [])

    def test_nothing_before_and_nothing_behind(self):
        self.store.begin()
        watch = Watch(self.store)
        self.assertEqual(watch.log, [])
        self.store.begin()
        self.assertEqual(watch.log, [])
        with watch:
            self.store.begin()
        self.store.begin()
        self.assertEqual(watch.log, [("begin", 2, 0)])

    def test_an_error_ends_it(self):
        for error in (StoreError("region"), KeyError(3), KeyboardInterrupt()):
            store = Store()
            with self.assertRaises(type(error)) as caught:
                with Watch(store) as watch:
                    store.begin()
                    raise error
            self.assertIs(caught.exception, error)
            store.begin()
            self.assertEqual(watch.log, [("begin", 0, 0)])
            with Watch(store) as other:
                store.begin()
            self.assertEqual((watch.log, other.log), ([("begin", 0, 0)], [("begin", 2, 0)]))

    def test_a_refused_call_in_the_block(self):
        with self.assertRaises(StoreError):
            with Watch(self.store) as watch:
                self.store.begin()
                self.store.end(0)
                self.store.end(0)
        self.assertEqual(watch.log, [("begin", 0, 0), ("end", 0, 0)])

    def test_a_second_watch_inside(self):
        with Watch(self.store) as first:
            self.store.begin()
            with Watch(self.store) as second:
                self.store.begin()
            self.store.begin()
        self.store.begin()
        self.assertEqual((first.log, second.log), ([("begin", 0, 0)], [("begin", 1, 0)]))

    def test_a_second_watch_that_goes_on(self):
        """The end of the first one's block does not stop the second one."""
        first, second = Watch(self.store), Watch(self.store)
        first.__enter__()
        self.store.begin()
        second.__enter__()
        self.store.begin()
        first.__exit__(None, None, None)
        self.store.begin()
        second.__exit__(None, None, None)
        self.store.begin()
        self.assertEqual((first.log, second.log), ([("begin", 0, 0)], [("begin", 1, 0), ("begin", 2, 0)]))

    def test_one_after_the_other(self):
        logs = []
        for _ in range(3):
            with Watch(self.store) as watch:
                self.store.begin()
            logs.append(watch.log)
        self.assertEqual(logs, [[("begin", 0, 0)], [("begin", 1, 0)], [("begin", 2, 0)]])

    def test_the_same_watch_again(self):
        watch = Watch(self.store)
        with watch:
            self.store.begin()
        before = watch.log
        with watch as again:
            self.store.begin()
        self.assertIs(again, watch)
        self.assertEqual((before, watch.log), ([("begin", 0, 0)], [("begin", 1, 0)]))

    def test_stores_are_watched_by_themselves(self):
        other = Store()
        with Watch(self.store) as first, Watch(other) as second:
            self.store.begin()
            other.begin()
            other.end(0)
        self.assertEqual((first.log, second.log), ([("begin", 0, 0)], [("begin", 0, 0), ("end", 0, 0)]))

    def test_it_changes_nothing_of_what_the_store_does(self):
        for seed in range(20):
            plain, watched = Store(), Store()
            done = list(deeds(random.Random(seed), 40, 20))
            with Watch(watched):
                answers = [do(watched, deed) for deed in done]
            self.assertEqual(answers, [do(plain, deed) for deed in done])
            self.assertEqual(list(plain), list(watched))


class ReplayTest(unittest.TestCase):
    def test_nothing(self):
        self.assertEqual(replay([]), [])

    def test_each_deed(self):
        log = replay([("begin",), ("cell", 0, 3), ("write", 1, 7), ("read", 1), ("read", 99), ("end", 0), ("read", 1)])
        self.assertEqual(log, [
            ("begin", 0, 0), ("cell", 0, 0), ("write", 0, 1), ("read", 0, 1), ("read", -1, 99), ("end", 0, 0),
            ("read", -1, 1)])
        self.assertIs(type(log), list)

    def test_deeds_that_are_refused(self):
        log = replay([("end", 0), ("cell", 0, 3), ("begin",), ("cell", 0, 0), ("cell", 0, -5), ("cell", 1, 5),
                      ("cell", 0, 9), ("end", 0), ("end", 0), ("begin",), ("cell", 1, 2)])
        self.assertEqual(log, [("begin", 0, 0), ("cell", 0, 0), ("end", 0, 0), ("begin", 1, 0), ("cell", 1, 0)])

    def test_against_a_watch(self):
        for seed in range(40):
            done = list(deeds(random.Random(seed), 50, 30))
            store = Store()
            with Watch(store) as watch:
                for deed in done:
                    do(store, deed)
            self.assertEqual(replay(done), watch.log)
            self.assertEqual(replay(done), replay(done))

    def test_the_deeds_are_not_changed(self):
        done = [("begin",), ("cell", 0, 3), ("end", 5)]
        replay(done)
        self.assertEqual(done, [("begin",), ("cell", 0, 3), ("end", 5)])


if __name__ == "__main__":
    unittest.main()
