"""A plain store, which does what the points 32 to 60 say step by step, with the plain index of tests/model.py."""

from model import Model


class Cut(Exception):
    """The power was cut."""


class Worn(Exception):
    """No block is left."""


def spare(blocks):
    return blocks // 16 + 1


def less(number, *others):
    for other in others:
        number = max(0, number - other)
    return number


def limits(blocks, pages):
    """The share and the limit (point 33)."""
    found = []
    for share in range(blocks):
        room = less(blocks, blocks // 16 + 1, 3, share + 7)
        fits = share + 2 <= room <= 2 * (share + 2)
        found.append((share * pages - 28) * room // (share + 2) if fits else 0)
    return found.index(max(found)), max(found)


def scanned(chip):
    blocks, pages = chip.shape
    return [[chip.read(block, page) for page in range(pages)] for block in range(blocks)]


def best_root(scan):
    """The number, block, page and content of the standing root (point 44)."""
    found = []
    for block, readings in enumerate(scan):
        for page, reading in enumerate(readings[:-1]):
            if page % 2 == 0 and reading[0] == "right" and reading[1][0] == "root":
                if readings[page + 1] != ("blank",):
                    found.append((-reading[1][1], block, page, reading[1]))
    return min(found) if found else None


def at_address(scan, places, address):
    physical = places[address[0]]
    return ("damaged",) if physical is None else scan[physical][address[1]]


def items_that_count(scan, root):
    """Point 50, prefix by prefix."""
    pages = len(scan[0])
    addresses = [(logical, page) for logical in root[4] for page in range(pages)]
    chain = []
    for address in addresses:
        reading = at_address(scan, root[5], address)
        if reading[0] == "right" and reading[1][0] == "item":
            if reading[1][1] == root[2] and reading[1][2] == len(chain) + 1:
                chain.append((address, reading[1]))
    for length in range(len(chain), 0, -1):
        address, item = chain[length - 1]
        behind = addresses[addresses.index(address) + 1 :]
        if item[3] and behind and at_address(scan, root[5], behind[0]) != ("blank",):
            return chain[:length]
    return []


def loaded(scan, root):
    index = Model()
    if root[3] is not None:
        load_below(index, scan, root, 3, 0, root[3])
    return index


def load_below(index, scan, root, level, number, address):
    content = at_address(scan, root[5], address)[1]
    if level < 0:
        index.put(number, address, content[5])
        return
    for at, child in enumerate(content[2]):
        if child is not None:
            load_below(index, scan, root, level - 1, 32 * number + at, child)
    index.write_node(level, number, address)


class PlainStore:
    def __init__(self, chip, settle):
        chip.generation += 1
        chip.switch_on()
        scan = scanned(chip)
        _, self.home, _, self.root = best_root(scan)
        self.chip = chip
        self.shape = chip.shape
        self.anchor = self.home
        self.position = 0
        while set(scan[self.home][self.position :]) - {("blank",)}:
            self.position += 2
        self.index = loaded(scan, self.root)
        self.buffer = {}
        self.places, self.recorded, self.bad = [list(part) for part in self.root[5:8]]
        self.clean = []
        self.item_count = 0
        self.journal_at = (0, 0)
        self.unmarked = False
        self.head = None
        counting = items_that_count(scan, self.root)
        self.level()
        for address, item in counting:
            self.make_item(address, item)
        self.commit(settle({key: leaf[1] for key, leaf in sorted(self.index.keys.items())}))

    # What is chosen (part 4).

    def two_left(self):
        return self.position + 1 < self.shape[1]

    def free(self):
        named = set(self.root[5]) | set(self.places) | set(self.bad) | set(self.clean) | {self.home, self.anchor}
        return sorted(set(range(self.shape[0])) - named, key=lambda block: (self.recorded[block], block))

    def data(self):
        named = [logical for logical in range(self.shape[0]) if self.places[logical] is not None]
        return [one for one in named if self.places[one] not in self.bad and one not in self.root[4]]

    def foreseen(self, changes, victims):
        """The leaves that a commit writes, and the index when they are put."""
        index = self.index.copied()
        changed = dict(changes)
        leaves = {key: value for key, value in changes if value is not None}
        for key, (address, value) in self.index.keys.items():
            if key not in changed and address[0] in victims:
                leaves[key] = value
        for key, value in changes:
            if value is None:
                index.drop(key)
        for victim in victims:
            index.mark_block(victim)
        for key in leaves:
            index.put(key, ("new", 0), leaves[key])
        return leaves, index

    def taken(self, changes, victims):
        leaves, index = self.foreseen(changes, victims)
        written = len(leaves) + len(index.nodes()) - len(index.written)
        return -(-written // self.shape[1]) + 2 + (not self.two_left())

    def freed(self, changes, victims):
        leaves, index = self.foreseen(changes, victims)
        used = {leaf[0][0] for leaf in index.keys.values()} | {address[0] for address in index.written.values()}
        named = [one for one, block in enumerate(self.places) if block is not None and block not in self.bad]
        return len(set(named) - used) + (not self.two_left())

    def victims(self, changes):
        dropped = [key for key, value in changes if value is None]
        blocks = [leaf[0][0] for key, leaf in self.index.keys.items() if key not in dropped]
        ordered = sorted(self.data(), key=lambda one: (blocks.count(one), one))
        available = len(self.free()) + len(self.clean)
        kept = 4 + less(spare(self.shape[0]), len(self.bad)) + (self.anchor in self.bad)
        needed = limits(*self.shape)[0] + 3 + kept
        for many in range(self.shape[0] + 1):
            taken = self.taken(changes, ordered[:many])
            if taken + kept <= available and needed + taken <= available + self.freed(changes, ordered[:many]):
                return ordered[:many]
        return []

    def wanted(self):
        good = [block for block in range(self.shape[0]) if block not in self.bad]
        least = min(self.recorded[block] for block in good)
        hot = [one for one in self.free() + self.clean if self.recorded[one] > least + 16 + len(self.bad)]
        if len(self.bad) > spare(self.shape[0]) or not hot:
            return None
        for logical in self.data():
            if self.recorded[self.places[logical]] == least:
                return logical
        return "anchor" if self.anchor in good and self.recorded[self.anchor] == least else None

    # What is done (part 5).

    def become_bad(self, block):
        if block not in self.bad:
            self.bad.append(block)

    def program(self, block, page, content):
        answer = self.chip.program(block, page, content)
        if answer in ("cut", "refused"):
            raise Cut
        if answer == "failed":
            self.become_bad(block)
        return answer == "done"

    def take(self):
        for block in self.free():
            answer = self.chip.erase(block)
            if answer in ("cut", "refused"):
                raise Cut
            self.recorded[block] += 1
            if answer == "done":
                self.clean.append(block)
                return
            self.become_bad(block)
        raise Worn

    def use(self):
        if not self.clean:
            self.take()
        return self.clean.pop(0)

    def open(self):
        block = self.use()
        for logical in range(self.shape[0]):
            if self.places[logical] is None and self.root[5][logical] is None:
                self.places[logical] = block
                return logical
        raise AssertionError

    def write_root(self, told):
        number = self.root[1] + 1
        while True:
            if not self.two_left():
                self.anchor = self.use()
                self.position = 0
            root = ("root", number) + told + (tuple(self.recorded), tuple(self.bad))
            if self.program(self.anchor, self.position, root):
                break
            self.position += 2
        self.program(self.anchor, self.position + 1, ("mark", number))
        self.root = root
        self.home = self.anchor
        self.position += 2

    def room(self):
        which, page = self.journal_at
        return less((2 - which) * self.shape[1], page, 1)

    def program_journal(self, content):
        which, page = self.journal_at
        address = (self.root[4][which], page)
        done = self.program(self.places[address[0]], page, content)
        self.journal_at = (which, page + 1) if page + 1 < self.shape[1] else (which + 1, 0)
        return address if done else None

    def make_item(self, address, item):
        if item[5] is None:
            self.index.drop(item[4])
        else:
            self.index.put(item[4], address, item[5])

    def change(self, changes):
        self.buffer.update(dict(changes))
        if len(self.buffer) >= 8:
            self.flush()

    def flush(self):
        if self.buffer:
            changes = sorted(self.buffer.items())
            before = self.index.copied()
            if self.journal_takes(changes):
                self.unmarked = True
            else:
                self.index = before
                self.commit(changes)
            self.buffer = {}

    def journal_takes(self, changes):
        if len(changes) > self.room():
            return False
        for key, value in changes:
            item = ("item", self.root[2], self.item_count + 1, key == changes[-1][0], key, value)
            address = None
            while address is None:
                if self.room() == 0:
                    return False
                address = self.program_journal(item)
            self.item_count += 1
            self.make_item(address, item)
        return True

    def sync(self):
        self.flush()
        if self.unmarked:
            self.program_journal(("mark", self.item_count))
            self.unmarked = False

    def write(self, content):
        while True:
            if self.head is None or self.head[1] == self.shape[1]:
                self.head = (self.open(), 0)
            address = self.head
            done = self.program(self.places[address[0]], address[1], content)
            self.head = (address[0], address[1] + 1)
            if done:
                return address

    def live(self):
        return [leaf[0] for leaf in self.index.keys.values()] + list(self.index.written.values())

    def commit(self, changes):
        victims = self.victims(changes)
        taken = self.taken(changes, victims)
        leaves, _ = self.foreseen(changes, victims)
        for key, value in changes:
            if value is None:
                self.index.drop(key)
        for victim in victims:
            self.index.mark_block(victim)
        self.head = None
        for _ in range(less(taken, len(self.clean))):
            self.take()
        for key in sorted(leaves):
            self.index.put(key, self.write(("item", 0, 0, False, key, leaves[key])), leaves[key])
        while self.index.next_node() is not None:
            level, number, children = self.index.next_node()
            self.index.write_node(level, number, self.write(("node", level, children)))
        journal = (self.open(), self.open())
        used = {address[0] for address in self.live()} | set(journal)
        places = [block if logical in used else None for logical, block in enumerate(self.places)]
        self.write_root((self.root[2] + 1, self.index.written.get((3, 0)), journal, tuple(places)))
        self.places = places
        self.head = None
        self.item_count = 0
        self.journal_at = (0, 0)
        self.unmarked = False
        self.level()

    def level(self):
        for _ in range(3 * self.shape[0] + 3):
            wanted = self.wanted()
            if wanted is None:
                return
            if wanted == "anchor":
                self.anchor = self.use()
                self.position = 0
            else:
                if not self.two_left():
                    self.anchor = self.use()
                    self.position = 0
                self.move(wanted)
            self.write_root(self.root[2:5] + (tuple(self.places),))

    def move(self, logical):
        pages = sorted({address[1] for address in self.live() if address[0] == logical})
        contents = [self.chip.read(self.places[logical], page)[1] for page in pages]
        while True:
            target = self.use()
            if all(self.program(target, page, content) for page, content in zip(pages, contents)):
                break
        self.places[logical] = target


def plain_format(chip):
    """Point 57."""
    blocks, pages = chip.shape
    chip.generation += 1
    chip.switch_on()
    bad = []
    for block in range(blocks):
        answer = chip.erase(block)
        if answer in ("cut", "refused"):
            raise Cut
        if answer == "failed":
            bad.append(block)
    if len(bad) > spare(blocks):
        raise Worn
    good = [block for block in range(blocks) if block not in bad]
    places = (good[1], good[2]) + (None,) * (blocks - 2)
    root = ("root", 1, 1, None, (0, 1), places, (1,) * blocks, tuple(bad))
    for page in range(pages):
        if page % 2 == 0 and page + 1 < pages:
            answer = chip.program(good[0], page, root)
            if answer == "done":
                if chip.program(good[0], page + 1, ("mark", 1)) == "cut":
                    raise Cut
                return
            if answer != "failed":
                raise Cut
    raise Worn
