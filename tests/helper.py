"""What several tests need: maps made of changes, a plain dict's account of what a map must tell, and days of deeds
done on plain maps that are copied whole."""

from eldermap.trees import EMPTY, beginnings_of, changed, entries_of, nodes_of

# Every name of at most two letters out of a and b: among them beginnings of one another, neighbours
# and the empty name.
SMALL_NAMES = ["", "a", "aa", "ab", "b", "ba", "bb"]


def map_of(entries):
    """The root of a map with these entries, put in the order in which the dict has them."""
    root = EMPTY
    for name, value in entries.items():
        root = changed(root, name, value)[0]
    return root


def small_maps():
    """Every map of names from SMALL_NAMES, as dicts; each name has a value of its own, one the empty text."""
    maps = []
    for choice in range(2 ** len(SMALL_NAMES)):
        chosen = [name for place, name in enumerate(SMALL_NAMES) if choice >> place & 1]
        maps.append({name: name[::-1] for name in chosen})
    return maps


def after(entries, name, value):
    """The entries with the name's value changed, None for taken away."""
    new = dict(entries)
    new.pop(name, None)
    if value is not None:
        new[name] = value
    return new


def beginnings_told(entries):
    """What point 4 asks of a map with these entries, reckoned from the names alone."""
    texts = {name[:size] for name in entries for size in range(len(name) + 1)}
    rows = []
    for text in sorted(texts):
        letters = {longer[-1] for longer in texts if longer != "" and longer[:-1] == text}
        rows.append((text, entries.get(text), "".join(sorted(letters))))
    return rows


def nodes_by_beginning(root):
    return dict(nodes_of(root))


def check_change(case, root, entries, name, value):
    """Does one change and checks all that points 3, 4 and 5 say of it; gives back the new root."""
    elder = nodes_by_beginning(root)
    new_root, made = changed(root, name, value)
    younger = nodes_by_beginning(new_root)
    new_entries = after(entries, name, value)

    case.assertEqual(entries_of(new_root), sorted(new_entries.items()))
    case.assertEqual(beginnings_of(new_root), beginnings_told(new_entries))
    case.assertEqual(beginnings_of(root), beginnings_told(entries))

    if entries.get(name) == value:
        case.assertEqual(made, 0)
        case.assertIs(new_root, root)
        return new_root
    on_the_way = [text for text in younger if name.startswith(text)]
    case.assertEqual(made, len(on_the_way))
    for text, node in younger.items():
        if text in on_the_way:
            case.assertIsNot(node, elder.get(text), text)
        else:
            case.assertIs(node, elder[text], text)
    return new_root


# Numbers of no version in a day that has so many versions.
def numbers_of_none(count):
    return [-1, -2, count, count + 1, 10 ** 30, -10 ** 30, 10 ** 100, -count, -count - 1]


NO_NAMES = ["A", "aB", "a b", " ", "a1", "-", "ab\n", "a" * 100 + "Z", "\u00e4"]


class PlainDay:
    """A day kept by plain dicts, each version copied whole: what the document asks, by its words alone.

    A node is told by a number of its own, so that the same number is one and the same node.
    """

    def __init__(self, deeds=()):
        self.maps = [{}]
        self.nodes = [{}]
        self.parents = [None]
        self.answers = []
        self.work = []
        self.last_node = 0
        for deed in deeds:
            self.do(deed)

    def do(self, deed):
        answer, made = self.join(*deed[1:]) if deed[0] == "join" else self.change(*deed[1:])
        self.answers.append(answer)
        self.work.append(made)
        return answer

    def is_version(self, number):
        return number in range(len(self.maps))

    def keep(self, parent, entries, nodes, made):
        self.maps.append(entries)
        self.nodes.append(nodes)
        self.parents.append(parent)
        return len(self.maps) - 1, made

    def change(self, version, name, value=None):
        if not self.is_version(version):
            return "no version", 0
        if set(name) - set("abcdefghijklmnopqrstuvwxyz"):
            return "no name", 0
        return self.keep(version, *self.one_change(self.maps[version], self.nodes[version], name, value))

    def one_change(self, entries, nodes, name, value):
        """The new map, its nodes and how many of them are new: point 5."""
        if entries.get(name) == value:
            return dict(entries), dict(nodes), 0
        new_entries, new_nodes, made = after(entries, name, value), {}, 0
        for text, _, _ in beginnings_told(new_entries):
            if name.startswith(text):
                self.last_node += 1
                made += 1
                new_nodes[text] = self.last_node
            else:
                new_nodes[text] = nodes[text]
        return new_entries, new_nodes, made

    def join(self, base, one, two):
        if not all(map(self.is_version, (base, one, two))):
            return "no version", 0
        maps = [self.maps[number] for number in (base, one, two)]
        clashes, changes = [], []
        for name in sorted(set().union(*maps)):
            old, here, there = [entries.get(name) for entries in maps]
            if here != old and there != old and here != there:
                clashes.append((name, old, here, there))
            elif there != old and here != there:
                changes.append((name, there))
        if clashes:
            return ("clash", clashes), 0
        entries, nodes, made = self.maps[one], self.nodes[one], 0
        for name, value in changes:
            entries, nodes, more = self.one_change(entries, nodes, name, value)
            made += more
        return self.keep(one, entries, nodes, made)

    def difference(self, one, two):
        old, new = self.maps[one], self.maps[two]
        rows = [(name, old.get(name), new.get(name)) for name in sorted(set(old) | set(new))]
        here, there = self.nodes[one], self.nodes[two]
        opened = [text for text in set(here) | set(there) if here.get(text) != there.get(text)]
        return [row for row in rows if row[1] != row[2]], len(opened)

    def leading(self, one, two):
        deeds, version, count = [], one, len(self.maps)
        for name, _, value in self.difference(one, two)[0]:
            deeds.append(("take", version, name) if value is None else ("put", version, name, value))
            version, count = count, count + 1
        return deeds

    def back_to(self, version, steps):
        for _ in range(steps):
            version = self.parents[version] or 0
        return version


class Drawn:
    """A fixed row of numbers that look drawn: the same ones in every run."""

    def __init__(self, first):
        self.state = first * 7919 + 1

    def below(self, bound):
        self.state = (self.state * 6364136223846793005 + 1442695040888963407) % 2 ** 64
        return (self.state >> 33) % bound

    def one_of(self, choices):
        return choices[self.below(len(choices))]

    def version(self, day):
        """Often one of the youngest versions, often one with more names than some other, now and then none."""
        count = len(day.maps)
        lot = self.below(20)
        if lot == 0:
            return self.one_of(numbers_of_none(count))
        if lot < 6:
            return max(0, count - 1 - self.below(3))
        return self.fuller_version(day)

    def fuller_version(self, day):
        return max([self.below(len(day.maps)) for _ in range(3)], key=lambda number: len(day.maps[number]))

    def name(self):
        if self.below(25) == 0:
            return self.one_of(NO_NAMES)
        size = self.below(4) + self.one_of([0, 0, 0, 3])
        return "".join([self.one_of("aab") for _ in range(size)])

    def deed(self, day):
        lot = self.below(20)
        if lot >= 14:
            return self.join(day)
        version = self.version(day)
        if lot >= 10:
            return ("take", version, self.name_in(day, version))
        return ("put", version, self.name_in(day, version), self.one_of(["", "x", "y", "x y", "z"]))

    def name_in(self, day, version):
        """Often a name that the version has, as a drawn name seldom is one."""
        names = sorted(day.maps[version]) if day.is_version(version) else []
        return self.one_of(names) if names and self.below(2) else self.name()

    def join(self, day):
        """Now of close kin, now of versions that lie far apart, where clashes are in more names than one."""
        lot = self.below(4)
        if lot < 2:
            return ("join", self.fuller_version(day), self.fuller_version(day), self.fuller_version(day))
        one = self.version(day)
        if lot == 2 and day.is_version(one):
            return ("join", day.back_to(one, self.below(4)), one, self.version(day))
        return ("join", self.version(day), one, self.version(day))


def drawn_day(first, size):
    """A day of so many drawn deeds, and what it must tell."""
    drawn, day, deeds = Drawn(first), PlainDay(), []
    for _ in range(size):
        deeds.append(drawn.deed(day))
        day.do(deeds[-1])
    return deeds, day
