"""The store: where cells stand, which pages are taken, what is read and written, and what the questions say."""

import inspect
import random
import unittest

from escheat.errors import StoreError
from escheat.memory import Store
from tests.store_model import Model, deeds, do


def refused(deed):
    """The reason of the StoreError that a deed raises, or None."""
    try:
        deed()
    except StoreError as error:
        return error.reason
    return None


def answers(store):
    """What all questions answer."""
    addresses = range(-20, len(store) + 20)
    return (
        store.held, store.pages, store.waiting, len(store), list(store), list(store.current()),
        [address in store for address in addresses], [store.owner(address) for address in addresses],
    )


class ExampleTest(unittest.TestCase):
    def test_of_the_interface(self):
        store = Store()
        region = store.begin()
        self.assertEqual(store.cell(region, 3), 0)
        self.assertIsNone(store.write(1, 7))
        self.assertEqual(store.read(1), 7)
        self.assertIsNone(store.end(region))
        self.assertEqual(store.read(1), 0)

    def test_of_the_part(self):
        store = Store()
        self.assertEqual((store.begin(), store.begin()), (0, 1))
        self.assertEqual([store.cell(0, 3), store.cell(1, 3), store.cell(0, 5), store.cell(0, 1)], [0, 8, 3, 16])
        self.assertEqual((store.held, store.pages), (12, 3))
        store.end(0)
        self.assertEqual(([store.owner(8 * page) for page in range(3)], store.waiting), ([-1, 1, -1], 2))
        self.assertEqual(store.begin(), 2)
        self.assertEqual([store.cell(2, 10), store.cell(2, 8)], [24, 0])
        store.end(1)
        store.end(2)
        self.assertEqual((len(store), store.waiting, store.held), (40, 5, 0))


class RegionsTest(unittest.TestCase):
    def test_numbers_are_not_used_again(self):
        store = Store()
        found = []
        for _ in range(4):
            found.append(store.begin())
            store.end(found[-1])
            found.append(store.begin())
        self.assertEqual(found, list(range(8)))
        self.assertEqual(list(store.current()), [1, 3, 5, 7])

    def test_a_new_region_has_no_pages(self):
        store = Store()
        store.begin()
        self.assertEqual(answers(store), (0, 0, 0, 0, [], [0], [False] * 40, [-1] * 40))

    def test_an_empty_store(self):
        self.assertEqual(answers(Store()), (0, 0, 0, 0, [], [], [False] * 40, [-1] * 40))

    def test_current_is_a_generator(self):
        store = Store()
        store.begin()
        self.assertTrue(inspect.isgenerator(store.current()))
        self.assertEqual(list(store.current()), [0])

    def test_not_current(self):
        store = Store()
        store.begin()
        store.begin()
        store.cell(0, 3)
        store.cell(1, 3)
        store.end(0)
        before = answers(store)
        for region in (0, 2, 3, -1, -2, 10 ** 30, -10 ** 30):
            for deed in (lambda: store.end(region), lambda: store.cell(region, 3), lambda: store.cell(region, 0)):
                self.assertEqual(refused(deed), "region")
                self.assertEqual(answers(store), before)
        self.assertEqual(store.begin(), 2)

    def test_words(self):
        store = Store()
        store.begin()
        store.cell(0, 3)
        before = answers(store)
        for words in (0, -1, -8, -10 ** 30):
            self.assertEqual(refused(lambda: store.cell(0, words)), "words")
            self.assertEqual(answers(store), before)
        self.assertEqual(store.cell(0, 1), 3)


class CellsTest(unittest.TestCase):
    def places(self, *words):
        """The addresses of cells that are made in one region of a new store."""
        store = Store()
        region = store.begin()
        return [store.cell(region, many) for many in words], store

    def test_sizes(self):
        for words, pages in ((1, 1), (2, 1), (7, 1), (8, 1), (9, 2), (15, 2), (16, 2), (17, 3), (24, 3), (25, 4)):
            found, store = self.places(words)
            self.assertEqual((found, store.pages, len(store), store.held), ([0], pages, 8 * pages, words))

    def test_the_rest_of_a_page(self):
        self.assertEqual(self.places(3, 5)[0], [0, 3])
        self.assertEqual(self.places(3, 6)[0], [0, 8])
        self.assertEqual(self.places(8, 1)[0], [0, 8])
        self.assertEqual(self.places(7, 1, 1)[0], [0, 7, 8])
        self.assertEqual(self.places(1, 1, 1, 1, 1, 1, 1, 1, 1)[0], [0, 1, 2, 3, 4, 5, 6, 7, 8])
        self.assertEqual(self.places(8, 8, 8)[0], [0, 8, 16])

    def test_the_rest_of_an_earlier_page_is_lost(self):
        """Behind a cell that took a new page nothing goes to the page before, even if there is room."""
        self.assertEqual(self.places(3, 6, 2, 1, 5)[0], [0, 8, 14, 16, 17])

    def test_behind_a_cell_of_many_words(self):
        """The rest of its last page stays unused; small cells go to the page of the last small one."""
        self.assertEqual(self.places(9, 1)[0], [0, 16])
        self.assertEqual(self.places(3, 9, 5)[0], [0, 8, 3])
        self.assertEqual(self.places(3, 17, 6, 2, 2)[0], [0, 8, 32, 38, 40])
        self.assertEqual(self.places(9, 9, 9)[0], [0, 16, 32])
        self.assertEqual(self.places(8, 9, 1)[0], [0, 8, 24])

    def test_regions_have_pages_of_their_own(self):
        store = Store()
        store.begin()
        store.begin()
        found = [store.cell(region, 2) for region in (0, 1, 0, 1, 0, 1, 0, 1, 0, 1)]
        self.assertEqual(found, [0, 8, 2, 10, 4, 12, 6, 14, 16, 24])
        self.assertEqual([store.owner(address) for address in (0, 7, 8, 15, 16, 24)], [0, 0, 1, 1, 0, 1])

    def test_words_are_0_at_first(self):
        store = Store()
        first = store.begin()
        store.cell(first, 20)
        for address in range(24):
            store.write(address, address + 1)
        # Also behind the cells of the region, on pages that belong to it.
        self.assertEqual(list(store), list(range(1, 25)))
        store.end(first)
        self.assertEqual(list(store), [0] * 24)
        second = store.begin()
        self.assertEqual([store.cell(second, 8), store.cell(second, 16)], [0, 8])
        self.assertEqual(list(store), [0] * 24)


class WrittenBeforeTest(unittest.TestCase):
    """Cells at addresses that were written to before, when they were the rest of a page."""

    def filled(self, *words):
        """A store with these cells in region 0, all words of whose pages are written: 100 and the address."""
        store = Store()
        store.begin()
        for many in words:
            store.cell(0, many)
        for address in range(len(store)):
            store.write(address, 100 + address)
        return store

    def test_the_word_of_the_issue(self):
        store = Store()
        store.begin()
        store.cell(0, 3)
        store.write(4, 5)
        self.assertEqual(store.read(4), 5)
        self.assertEqual(store.cell(0, 3), 3)
        self.assertEqual([store.read(address) for address in range(8)], [0] * 8)

    def test_only_the_words_of_the_cell(self):
        for first in range(1, 8):
            for words in range(1, 9 - first):
                store = self.filled(first)
                self.assertEqual(store.cell(0, words), first)
                rest = range(100 + first + words, 108)
                self.assertEqual(list(store), [*range(100, 100 + first)] + [0] * words + [*rest])

    def test_one_after_the_other(self):
        store = self.filled(1)
        for address in range(1, 8):
            self.assertEqual(store.cell(0, 1), address)
            self.assertEqual(list(store), [100] + [0] * address + [*range(101 + address, 108)])

    def test_what_is_written_to_the_cell_stays(self):
        store = self.filled(2)
        self.assertEqual(store.cell(0, 2), 2)
        store.write(2, -7)
        store.write(5, -8)
        self.assertEqual(store.cell(0, 2), 4)
        self.assertEqual(list(store), [100, 101, -7, 0, 0, 0, 106, 107])

    def test_a_cell_on_a_new_page_changes_no_other_page(self):
        for words in (6, 8, 9, 17):
            store = self.filled(3)
            self.assertEqual(store.cell(0, words), 8)
            self.assertEqual(list(store), [*range(100, 108)] + [0] * (len(store) - 8))

    def test_behind_a_cell_of_many_words(self):
        """The rest of its last page stays as it is, and the cell goes to the rest of the page before."""
        store = self.filled(3, 9)
        self.assertEqual(store.cell(0, 4), 3)
        self.assertEqual(list(store), [*range(100, 103)] + [0] * 4 + [*range(107, 124)])

    def test_pages_of_other_regions(self):
        store = Store()
        for region in range(3):
            store.begin()
            store.cell(region, 4)
        for address in range(24):
            store.write(address, 1)
        self.assertEqual(store.cell(1, 3), 12)
        self.assertEqual(list(store), [1] * 12 + [0] * 3 + [1] * 9)

    def test_a_page_that_is_used_again(self):
        store = self.filled(5, 8)
        store.end(0)
        self.assertEqual(list(store), [0] * 16)
        region = store.begin()
        self.assertEqual(store.cell(region, 4), 0)
        for address in range(8):
            store.write(address, 9)
        self.assertEqual(store.cell(region, 4), 4)
        self.assertEqual(list(store), [9] * 4 + [0] * 12)

    def test_refused_cells_change_nothing(self):
        store = self.filled(3)
        for region, words in ((0, 0), (0, -3), (1, 3), (-1, 3)):
            self.assertIn(refused(lambda: store.cell(region, words)), ("region", "words"))
            self.assertEqual(list(store), list(range(100, 108)))


class PagesTest(unittest.TestCase):
    def gaps(self, *rows):
        """A store in which these pages wait, and the others up to 9 belong to region 0; the next region is 10."""
        store = Store()
        for region in range(10):
            store.begin()
        for page in range(10):
            store.cell(page if page in rows else 0, 8)
        for page in rows:
            if page:
                store.end(page)
        return store

    def taken(self, store, words):
        region = store.begin()
        return store.cell(region, words) // 8

    def test_one_page(self):
        self.assertEqual(self.taken(self.gaps(4, 2, 7), 1), 2)
        self.assertEqual(self.taken(self.gaps(7, 8), 8), 7)
        self.assertEqual(self.taken(self.gaps(), 8), 10)

    def test_rows(self):
        self.assertEqual(self.taken(self.gaps(1, 3, 4, 6, 7, 8), 9), 3)
        self.assertEqual(self.taken(self.gaps(1, 3, 4, 6, 7, 8), 16), 3)
        self.assertEqual(self.taken(self.gaps(1, 3, 4, 6, 7, 8), 17), 6)
        self.assertEqual(self.taken(self.gaps(1, 3, 4, 6, 7, 8), 25), 10)
        self.assertEqual(self.taken(self.gaps(1, 3, 5, 7), 9), 10)

    def test_a_row_that_is_longer(self):
        self.assertEqual(self.taken(self.gaps(2, 3, 4, 5), 9), 2)
        store = self.gaps(2, 3, 4, 5)
        self.assertEqual([self.taken(store, words) for words in (8, 9, 9, 1)], [2, 3, 10, 5])

    def test_waiting_pages_at_the_end_are_no_part_of_a_new_row(self):
        store = self.gaps(8, 9)
        self.assertEqual(self.taken(store, 17), 10)
        self.assertEqual((len(store), store.waiting), (8 * 13, 2))

    def test_order_of_ends_does_not_matter(self):
        store = Store()
        for region in range(3):
            store.begin()
            store.cell(region, 8)
        for region in (2, 0, 1):
            store.end(region)
        store.begin()
        self.assertEqual([store.cell(3, 8) for _ in range(4)], [0, 8, 16, 24])


class WordsTest(unittest.TestCase):
    def setUp(self):
        self.store = Store()
        for region in range(3):
            self.store.begin()
            self.store.cell(region, 3)
        self.store.end(1)

    def test_words_of_any_size(self):
        for word in (0, -1, 2 ** 31, -2 ** 31 - 1, 10 ** 50, -10 ** 50):
            self.assertIsNone(self.store.write(2, word))
            self.assertEqual(self.store.read(2), word)

    def test_any_address_of_a_page(self):
        for address in (*range(8), *range(16, 24)):
            self.store.write(address, address + 100)
        self.assertEqual(list(self.store), [*range(100, 108)] + [0] * 8 + [*range(116, 124)])
        self.assertEqual([self.store.read(address) for address in (7, 23)], [107, 123])

    def test_where_nothing_is_written(self):
        for address in (-1, -8, -24, -10 ** 30, 8, 11, 15, 24, 25, 1000, 10 ** 30):
            before = answers(self.store)
            self.assertIsNone(self.store.write(address, 5))
            self.assertEqual(self.store.read(address), 0)
            self.assertEqual(answers(self.store), before)

    def test_another_page_and_another_region_later(self):
        """What was written before the page was given back is not seen by the next region."""
        self.store.write(8, 5)
        region = self.store.begin()
        self.assertEqual(self.store.cell(region, 2), 8)
        self.assertEqual(self.store.read(8), 0)
        self.store.write(8, 6)
        self.assertEqual(self.store.read(8), 6)


class QuestionsTest(unittest.TestCase):
    def test_held_and_pages(self):
        store = Store()
        store.begin()
        store.begin()
        for region, words, held, pages in ((0, 3, 3, 1), (1, 9, 12, 3), (0, 6, 18, 4), (1, 1, 19, 5)):
            store.cell(region, words)
            self.assertEqual((store.held, store.pages, store.waiting), (held, pages, 0))
        store.end(1)
        self.assertEqual((store.held, store.pages, store.waiting, len(store)), (9, 2, 3, 40))

    def test_they_change_nothing(self):
        store = Store()
        store.begin()
        store.cell(0, 9)
        store.write(3, 4)
        first = answers(store)
        self.assertEqual(answers(store), first)
        self.assertEqual(store.cell(0, 1), 16)

    def test_in(self):
        store = Store()
        store.begin()
        store.cell(0, 1)
        self.assertEqual([address in store for address in (-1, 0, 7, 8)], [False, True, True, False])
        store.end(0)
        self.assertEqual([address in store for address in (-1, 0, 7, 8)], [False, True, True, False])

    def test_stores_are_separate(self):
        first, second = Store(), Store()
        first.begin()
        first.cell(0, 5)
        self.assertEqual(answers(second), answers(Store()))


class ModelTest(unittest.TestCase):
    """Random deeds, after each of which all questions are asked of the store and of a plain model."""

    def test_against_the_model(self):
        for seed in range(150):
            store, model = Store(), Model()
            for deed in deeds(random.Random(seed), 60, 9 if seed % 5 else 40):
                self.assertEqual(do(store, deed), do(model, deed), deed)
                self.assertEqual(answers(store), model.answers())

    def test_what_always_holds(self):
        for seed in range(60):
            store = Store()
            cells, most, small = [], 0, True
            for deed in deeds(random.Random(seed), 80, 8 if seed % 2 else 20):
                before, older = list(store), list(cells)
                found = do(store, deed)
                if deed[0] == "cell" and isinstance(found, int):
                    cells.append((deed[1], range(found, found + deed[2])))
                    small = small and deed[2] <= 8
                    self.assertEqual([store.read(address) for address in cells[-1][1]], [0] * deed[2])
                if deed[0] == "end":
                    cells = [cell for cell in cells if cell[0] != deed[1]]
                taken = [address for _, cell in cells for address in cell]
                self.assertEqual(len(taken), len(set(taken)))
                self.assertTrue(all(store.owner(address) == region for region, cell in cells for address in cell))
                # The words of a cell that has just been made become 0; those of the others stay.
                stayed = [address for entry in older if entry in cells for address in entry[1]]
                changed = [at for at in stayed if before[at] != store.read(at)]
                self.assertLessEqual(set(changed), {deed[1]} if deed[0] == "write" else set())
                self.assertLessEqual(store.held, 8 * store.pages)
                self.assertEqual(store.held, len(taken))
                most = max(most, store.pages)
                if small:
                    self.assertLessEqual(store.pages + store.waiting, most)
            for region in list(store.current()):
                store.end(region)
            self.assertEqual((store.held, store.pages, list(store)), (0, 0, [0] * len(store)))


if __name__ == "__main__":
    unittest.main()
