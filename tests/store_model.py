"""A plain model of the store, and random deeds to do to both.

The model keeps for each page the region and eight words, and looks for room by trying every place.
"""

from escheat.errors import StoreError


class Model:
    def __init__(self):
        self.pages = []
        self.cells = {}
        self.ended = []

    def begin(self):
        region = len(self.cells) + len(self.ended)
        self.cells[region] = []
        return region

    def cell(self, region, words):
        if region not in self.cells:
            raise StoreError("region")
        if words < 1:
            raise StoreError("words")
        small = [cell for cell in self.cells[region] if len(cell) <= 8]
        place = None
        if words <= 8 and small:
            behind = small[-1][-1] + 1
            if behind % 8 and behind // 8 == (behind + words - 1) // 8:
                place = behind
        if place is None:
            place = 8 * self.row(-(-words // 8))
        self.cells[region].append(range(place, place + words))
        for page in range(place // 8, (place + words - 1) // 8 + 1):
            self.pages[page][0] = region
        for address in self.cells[region][-1]:
            self.write(address, 0)
        return place

    def row(self, many):
        for first in range(len(self.pages) - many + 1):
            if all(page[0] is None for page in self.pages[first:first + many]):
                return first
        self.pages.extend([None, [0] * 8] for _ in range(many))
        return len(self.pages) - many

    def end(self, region):
        if region not in self.cells:
            raise StoreError("region")
        self.ended.append(self.cells.pop(region))
        for page in self.pages:
            if page[0] == region:
                page[:] = [None, [0] * 8]

    def page_of(self, address):
        return self.pages[address // 8] if 0 <= address < 8 * len(self.pages) else [None, [0] * 8]

    def read(self, address):
        return self.page_of(address)[1][address % 8]

    def write(self, address, word):
        page = self.page_of(address)
        if page[0] is not None:
            page[1][address % 8] = word

    def answers(self):
        used = [page for page in self.pages if page[0] is not None]
        addresses = range(-20, 8 * len(self.pages) + 20)
        owners = [self.page_of(address)[0] for address in addresses]
        return (
            sum(len(cell) for cells in self.cells.values() for cell in cells), len(used), len(self.pages) - len(used),
            8 * len(self.pages), [word for page in self.pages for word in page[1]], sorted(self.cells),
            [0 <= address < 8 * len(self.pages) for address in addresses],
            [-1 if owner is None else owner for owner in owners],
        )


def deeds(random, many, most):
    """Random deeds, some of which are refused; the cells have mostly few words, and at most so many."""
    begun = 0
    for _ in range(many):
        roll = random.random()
        region = random.randint(max(begun - 5, -1), begun)
        if roll < 0.2 or not begun:
            begun += 1
            yield ("begin",)
        elif roll < 0.55:
            yield ("cell", region, random.choice([0, -1] + [1, 2, 3, 5, 7, 8] * 3 + list(range(1, most))))
        elif roll < 0.7:
            yield ("end", region)
        elif roll < 0.85:
            yield ("write", random.randint(-10, 90), random.choice([1, -5, 10 ** 20]))
        else:
            yield ("read", random.randint(-10, 90))


def do(store, deed):
    """What a deed returns, or the reason for which it is refused."""
    try:
        return getattr(store, deed[0])(*deed[1:])
    except StoreError as error:
        return error.reason
