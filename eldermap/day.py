"""What can be asked of a day of deeds and of the versions that are there behind all of them."""

from eldermap.book import book_of
from eldermap.differing import difference_of
from eldermap.trees import beginnings_of, entries_of, value_of


def answers(deeds):
    return book_of(deeds).answers


def work(deeds):
    book = book_of(deeds)
    return [nodes_made(book, answer) for answer in book.answers]


# Only a deed that made a version, whose number is then the answer, has made any node.
def nodes_made(book, answer):
    return book.version_at(answer).made if isinstance(answer, int) else 0


def parents(deeds):
    return [version.parent for version in book_of(deeds).versions]


def entries(deeds, version):
    return entries_of(book_of(deeds).root_at(version))


def beginnings(deeds, version):
    return beginnings_of(book_of(deeds).root_at(version))


def value(deeds, version, name):
    return value_of(book_of(deeds).root_at(version), name)


def difference(deeds, one, two):
    book = book_of(deeds)
    return difference_of(book.root_at(one), book.root_at(two))
