"""The memory: words in pages, each of which belongs to a region or waits; and what is recorded of its use."""

from escheat.errors import StoreError
from escheat.limits import PAGE_WORDS

# In the place of a region, for a page that waits.
NOBODY = -1


class Region:
    """A current region.

    - words: the words of all its cells.
    - pages_taken: its pages, in the order in which it took them.
    - behind: the address behind the last cell that was placed behind others, or 0 before there is one.
    """

    def __init__(self):
        self.words = 0
        self.pages_taken = []
        self.behind = 0


class Store:
    """A memory of words.

    - words: the words of all pages, in the order of their addresses.
    - owners: the region of each page, or NOBODY. All words of a page that waits are 0.
    - regions: the current regions by their numbers; begun: the number of those that have begun.
    - total: the words of all cells in current regions.
    - free: the number of the pages that wait.
    - watch: the watch that was started last, or None.
    """

    def __init__(self):
        self.words = []
        self.owners = []
        self.regions = {}
        self.begun = 0
        self.total = 0
        self.free = 0
        self.watch = None

    def begin(self):
        """Begin a region and return its number."""
        number = self.begun
        self.begun += 1
        self.regions[number] = Region()
        self.note("begin", number, 0)
        return number

    def cell(self, region, words):
        """Make a cell in a current region and return the address of its first word, or raise StoreError."""
        self.expect_current(region)
        if words < 1:
            raise StoreError("words")
        if words > PAGE_WORDS:
            address = self.take_pages(region, (words + PAGE_WORDS - 1) // PAGE_WORDS)
        else:
            address = self.take_room(region, words)
        # The rest of a page can be written to before a cell is placed there.
        self.blank(address, words)
        self.regions[region].words += words
        self.total += words
        self.note("cell", region, address)
        return address

    def end(self, region):
        """End a current region, whose pages wait then, or raise StoreError."""
        self.expect_current(region)
        ended = self.regions.pop(region)
        for page in list(ended.pages_taken):
            self.owners[page] = NOBODY
            self.blank(page * PAGE_WORDS, PAGE_WORDS)
        self.free += len(ended.pages_taken)
        self.total -= ended.words
        self.note("end", region, 0)

    def read(self, address):
        """Return the word at an address, which is 0 where no page of a region is."""
        self.note("read", self.owner(address), address)
        return self.words[address] if address in self else 0

    def write(self, address, word):
        """Replace the word at an address; where no page of a region is, nothing changes."""
        owner = self.owner(address)
        if owner != NOBODY:
            self.words[address] = word
        self.note("write", owner, address)

    def owner(self, address):
        """Return the region to which the page of an address belongs, or -1 if there is none."""
        return self.owners[address // PAGE_WORDS] if address in self else NOBODY

    def current(self):
        """Yield the current regions in ascending order."""
        for region in sorted(self.regions):
            yield region

    @property
    def held(self):
        """The words of all cells in current regions."""
        return self.total

    @property
    def pages(self):
        """The number of the pages that belong to regions."""
        return len(self.owners) - self.free

    @property
    def waiting(self):
        """The number of the pages that wait."""
        return self.free

    def __len__(self):
        return len(self.words)

    def __contains__(self, address):
        return 0 <= address < len(self.words)

    def __iter__(self):
        yield from self.words

    def expect_current(self, region):
        """Raise StoreError if a region is not current."""
        if region not in self.regions:
            raise StoreError("region")

    def take_room(self, region, words):
        """Return the address of a cell that shares its page: behind the last such cell, or on a new page."""
        address = self.regions[region].behind
        # The rest of a full page is none, and so is it before there is a page.
        if -address % PAGE_WORDS < words:
            address = self.take_pages(region, 1)
        self.regions[region].behind = address + words
        return address

    def take_pages(self, region, many):
        """Give a region consecutive pages, and return the address of the first one."""
        first = self.first_row(many)
        if first == len(self.owners):
            self.words.extend([0] * (many * PAGE_WORDS))
        else:
            self.free -= many
        # New pages are appended by this.
        self.owners[first:first + many] = [region] * many
        self.regions[region].pages_taken.extend(list(range(first, first + many)))
        return first * PAGE_WORDS

    def blank(self, address, many):
        """Let so many words from an address on become 0."""
        self.words[address:address + many] = [0] * many

    def first_row(self, many):
        """Return the first page of the first row of so many waiting pages, or the number of the next new page."""
        if self.free < many:
            return len(self.owners)
        row = 0
        for page, owner in enumerate(self.owners):
            row = row + 1 if owner == NOBODY else 0
            if row == many:
                return page + 1 - many
        return len(self.owners)

    def note(self, what, region, address):
        """Let the watch that was started last record something, unless it has stopped."""
        if self.watch is not None and self.watch.is_on:
            self.watch.log.append((what, region, address))


class Watch:
    """A record of what is done to a store in the block of a with statement."""

    def __init__(self, store):
        self.store = store
        self.log = []
        self.is_on = False

    def __enter__(self):
        self.log = []
        self.is_on = True
        self.store.watch = self
        return self

    def __exit__(self, kind, value, trace):
        # Only its own recording stops: another watch may have been started since.
        self.is_on = False


def replay(deeds):
    """Return the log of what these deeds do to a new store; those that it refuses are skipped."""
    with Watch(Store()) as watch:
        for deed in deeds:
            _perform(watch.store, deed)
    return list(watch.log)


def _perform(store, deed):
    """Do a deed, unless the store refuses it."""
    what, *numbers = deed
    action = DEEDS[what]
    try:
        action(store, numbers)
    except StoreError:
        pass


def _begin(store, numbers):
    store.begin()


def _cell(store, numbers):
    region, words = numbers
    store.cell(region, words)


def _end(store, numbers):
    store.end(numbers[0])


def _read(store, numbers):
    store.read(numbers[0])


def _write(store, numbers):
    address, word = numbers
    store.write(address, word)


DEEDS = {"begin": _begin, "cell": _cell, "end": _end, "read": _read, "write": _write}
