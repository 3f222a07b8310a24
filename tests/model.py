"""A model of layouts, written from the document in another way than the program: by listings."""

from itertools import combinations, product

from leastspare.disks import Disk
from leastspare.layouts import Layout


class Model:
    """What the document says of one layout."""

    def __init__(self, records, changes, contents):
        self.records, self.changes, self.contents = records, changes, contents
        self.layout = Layout(records, changes, contents)
        self.lots = [list(lot) for lot in combinations(range(records), changes)]
        self.places = min(figures for figures in range(8) if contents ** figures >= len(self.lots))
        self.codes = list(product(range(contents), repeat=self.places))
        self.blocks = records + changes + self.places + 1
        self.disk = Disk(self.blocks, contents)
        self.mark = self.blocks - 1
        self.class_b = [content for content in range(contents) if content >= contents // 2]

    def fillings(self):
        return product(range(self.contents), repeat=self.blocks)

    def tolds(self):
        return product(range(self.contents), repeat=self.records)

    def wishes(self):
        """All wishes, the empty one and those that tell what stands among them."""
        sets = [chosen for size in range(self.changes + 1) for chosen in combinations(range(self.records), size)]
        return [list(zip(chosen, contents)) for chosen in sets
                for contents in product(range(self.contents), repeat=len(chosen))]

    def is_by_news(self, filling):
        return filling[self.mark] in self.class_b

    def lot_in(self, filling):
        """The lot that the places tell: codes go on from the first lot behind the last one."""
        codes = filling[self.records + self.changes:self.mark]
        told = [self.lots[at % len(self.lots)] for at, other in enumerate(self.codes) if other == codes]
        return told[0]

    def read(self, filling):
        if not self.is_by_news(filling):
            return filling[:self.records]
        news = dict(zip(self.lot_in(filling), filling[self.records:]))
        return tuple(news.get(record, filling[record]) for record in range(self.records))

    def grant(self, told, wish):
        return tuple(dict(wish).get(record, content) for record, content in enumerate(told))

    def lot_for(self, wish):
        return min(lot for lot in self.lots if {record for record, _ in wish} <= set(lot))

    def plan(self, filling, wish):
        if not wish:
            return [[], [], [], []]
        home, away = [], []
        if self.is_by_news(filling):
            home = [(record, filling[self.records + at]) for at, record in enumerate(self.lot_in(filling))]
            away = [(self.mark, 0)]
        told, lot = self.grant(self.read(filling), wish), self.lot_for(wish)
        spread = [(self.records + at, told[record]) for at, record in enumerate(lot)]
        code = self.codes[self.lots.index(lot)]
        spread += [(self.records + self.changes + at, content) for at, content in enumerate(code)]
        return [home, away, spread, [(self.mark, self.class_b[0])]]

    def behind(self, filling, writes):
        contents = dict(enumerate(filling))
        contents.update(writes)
        return tuple(contents[block] for block in range(len(filling)))

    def left(self, filling, writes, torn):
        """All fillings that a cut may leave while these writes are pending."""
        return left_of(self.contents, filling, writes, torn)


def left_of(contents, filling, writes, torn):
    choices = []
    for block, content in enumerate(filling):
        made = [other for at, other in writes if at == block]
        choices.append(sorted({content, *made}) if not torn or not made else range(contents))
    return list(product(*choices))


def moments(disk, filling, groups, torn):
    """All fillings that a cut may leave ahead of the first write, behind each write, and behind each sync."""
    found = {filling}
    settled = filling
    for group in groups:
        for many in range(1, len(group) + 1):
            found.update(left_of(disk.contents, settled, group[:many], torn))
        contents = dict(enumerate(settled))
        contents.update(group)
        settled = tuple(contents[block] for block in range(disk.blocks))
        found.add(settled)
    return sorted(found)
