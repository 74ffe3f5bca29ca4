"""Maps of names to values, each told by its root: the node of the empty beginning, or None for the empty map.

No walk here calls itself, so that a name may be longer than calls may be deep.
"""

from eldermap.errors import NoName
from eldermap.nodes import letters_on, node_behind, value_at, with_branch, with_value

EMPTY = None


# Compared sign by sign, as Python's own tests for letters take many that are not from a to z.
def is_name(text):
    return all(["a" <= sign <= "z" for sign in text])


def refuse_no_name(text):
    if not is_name(text):
        raise NoName(f"no name: {text!r}")


# The nodes of the name's beginnings, from the empty one to the whole name, None where there is none.
def nodes_along(root, name):
    along = [root]
    for letter in name:
        along.append(node_behind(along[-1], letter))
    return along


def value_of(root, name):
    refuse_no_name(name)
    return value_at(nodes_along(root, name)[-1])


# Gives back the root of the new map and how many nodes were made for it. The value None takes the
# name away: joining hands on the value of another map as it is, none or not.
def changed(root, name, value):
    refuse_no_name(name)
    along = nodes_along(root, name)
    if value_at(along[-1]) == value:
        return (root, 0)
    return rebuilt(along, name, value)


# From the name's end to the root, as a node can't be changed and so must be made behind those it leads to.
def rebuilt(along, name, value):
    made = [with_value(along[-1], value)]
    for place in range(len(name) - 1, -1, -1):
        made.append(with_branch(along[place], name[place], made[-1]))
    return (made[-1], len([node for node in made if node is not None]))


# Pairs of each beginning and its node, in the order of the beginnings.
def nodes_of(root):
    found = []
    ahead = [] if root is None else [("", root)]
    while len(ahead) > 0:
        pair = ahead.pop()
        found.append(pair)
        ahead.extend(pairs_behind(pair[0], pair[1]))
    return found


# The last letter first, as the walk goes on with the pair that was laid down last.
def pairs_behind(beginning, node):
    letters = sorted(node.branches, reverse=True)
    return [(beginning + letter, node_behind(node, letter)) for letter in letters]


def beginnings_of(root):
    return [(beginning, node.value, letters_on(node)) for beginning, node in nodes_of(root)]


def entries_of(root):
    return [(beginning, node.value) for beginning, node in nodes_of(root) if node.value is not None]
