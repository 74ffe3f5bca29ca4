"""Where maps differ: a walk over several maps at once that passes over whatever they share.

A node that two maps share has the same behind it in both, so nothing behind it needs to be looked at.
The walk doesn't call itself, so that a name may be longer than calls may be deep.
"""

from eldermap.nodes import letters_on, node_behind, value_at


# One text with the nodes that three maps have for it, None for no node.
class Place:
    def __init__(self, text, base, one, two):
        self.text = text
        self.base = base
        self.one = one
        self.two = two

    def is_shared(self):
        return self.two == self.base or self.two == self.one

    def row(self):
        return (self.text, value_at(self.base), value_at(self.one), value_at(self.two))

    def place_behind(self, letter):
        behind = [node_behind(node, letter) for node in (self.base, self.one, self.two)]
        return Place(self.text + letter, behind[0], behind[1], behind[2])

    # The last letter first, as the walk goes on with the place that was laid down last. A letter that leads on in
    # `base` alone is left out: behind it neither `one` nor `two` has anything.
    def places_behind(self):
        letters = sorted(set(letters_on(self.one) + letters_on(self.two)))
        return [self.place_behind(letter) for letter in reversed(letters)]


def is_changed_from_both(row):
    return row[3] != row[1] and row[3] != row[2]


# A pair of rows and of the count of texts that were opened for them. A row tells a name and its values in the
# three maps, where the one in `two` is neither that of `base` nor that of `one`; so wherever `two` shares its
# node with either, there is none to be found.
def rows_apart(base, one, two):
    rows = []
    opened = 0
    ahead = [Place("", base, one, two)]
    while len(ahead) > 0:
        place = ahead.pop()
        if place.is_shared():
            continue
        opened += 1
        if is_changed_from_both(place.row()):
            rows.append(place.row())
        ahead.extend(place.places_behind())
    return (rows, opened)


# Joining has to look at no other names: each of those has in `one` already the value that it gets.
def rows_to_join(base, one, two):
    return rows_apart(base, one, two)[0]


# A pair of the rows (name, old, new) and of the count of texts that were opened for them.
def difference_of(one, two):
    apart = rows_apart(one, one, two)
    return ([(row[0], row[2], row[3]) for row in apart[0]], apart[1])
