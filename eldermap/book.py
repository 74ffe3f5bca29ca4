"""The book of a day: every version that its deeds have made, and what each deed was answered with."""

from eldermap.differing import rows_to_join
from eldermap.errors import NoName, NoVersion
from eldermap.trees import EMPTY, changed


# A map that never changes, told by its root, with the number of its parent and how many nodes were made for it.
class Version:
    def __init__(self, root, parent, made):
        self.root = root
        self.parent = parent
        self.made = made


class Book:
    def __init__(self):
        self.versions = [Version(EMPTY, None, 0)]
        self.answers = []

    # A number below nought would be an index from the list's end, so it is refused ahead of the index. The
    # refusal doesn't tell the number, as Python won't write out one that has too many figures.
    def version_at(self, number):
        if number < 0 or number >= len(self.versions):
            raise NoVersion("the number of no version")
        return self.versions[number]

    def root_at(self, number):
        return self.version_at(number).root

    def parent_of(self, number):
        return self.version_at(number).parent

    def keep(self, root, parent, made):
        self.versions.append(Version(root, parent, made))
        return len(self.versions) - 1

    # The value None takes the name away.
    def keep_changed(self, parent, name, value):
        change = changed(self.root_at(parent), name, value)
        return self.keep(change[0], parent, change[1])

    def keep_joined(self, base, one, two):
        rows = rows_to_join(self.root_at(base), self.root_at(one), self.root_at(two))
        clashes = [row for row in rows if row[1] != row[2]]
        if len(clashes) > 0:
            return ("clash", clashes)
        return self.keep_all_changed(one, [(row[0], row[3]) for row in rows])

    # One version for all of the changes, though each makes nodes of its own.
    def keep_all_changed(self, parent, pairs):
        root = self.root_at(parent)
        made = 0
        for name, value in pairs:
            change = changed(root, name, value)
            root = change[0]
            made += change[1]
        return self.keep(root, parent, made)

    def do(self, deed):
        self.answers.append(self.answer_to(deed))

    def answer_to(self, deed):
        try:
            return self.made_by(deed)
        except NoVersion:
            return "no version"
        except NoName:
            return "no name"

    def made_by(self, deed):
        if deed[0] == "put":
            return self.keep_changed(deed[1], deed[2], deed[3])
        if deed[0] == "take":
            return self.keep_changed(deed[1], deed[2], None)
        return self.keep_joined(deed[1], deed[2], deed[3])


def book_of(deeds):
    book = Book()
    for deed in deeds:
        book.do(deed)
    return book
