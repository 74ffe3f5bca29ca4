"""Ways between versions: the deeds that lead from one to another, and the way back over the parents."""

from eldermap.book import book_of
from eldermap.differing import difference_of


def leading(deeds, one, two):
    book = book_of(deeds)
    rows = difference_of(book.root_at(one), book.root_at(two))[0]
    # None of these deeds is refused, so each makes the version behind that of the one ahead.
    acted_on = [one] + list(range(len(book.versions), len(book.versions) + len(rows)))
    return [deed_for(version, row[0], row[2]) for version, row in zip(acted_on, rows)]


def deed_for(version, name, value):
    if value is None:
        return ("take", version, name)
    return ("put", version, name, value)


def back_to(deeds, version, steps):
    book = book_of(deeds)
    reached = version
    parent = book.parent_of(version)
    left = steps
    while left > 0 and parent is not None:
        reached = parent
        parent = book.parent_of(reached)
        left -= 1
    return reached
