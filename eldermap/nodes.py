"""Nodes: each stands for one beginning of a map, is shared between maps, and never changes once made.

A node has the value of its beginning as a name, or None, and a dict from each letter that leads on
to the node that it leads to. Where a map has no node, None stands in its place.
"""


# Without an __eq__ of its own, two nodes are equal where they are the very same one, which is what
# sharing is about; nodes that merely tell the same are two.
class Node:
    def __init__(self, value, branches):
        self.value = value
        self.branches = branches


def value_at(node):
    return None if node is None else node.value


# A copy, so that whoever builds a new node of it leaves the elder one as it is.
def branches_at(node):
    return {} if node is None else dict(node.branches)


def node_behind(node, letter):
    return None if node is None else node.branches.get(letter)


def letters_on(node):
    return "" if node is None else "".join(sorted(node.branches))


# A text without a value and without anything behind it is no beginning any more, so it gets no node.
def node_if_needed(value, branches):
    if value is None and len(branches) == 0:
        return None
    return Node(value, branches)


def with_value(node, value):
    return node_if_needed(value, branches_at(node))


def with_branch(node, letter, behind):
    branches = branches_at(node)
    if behind is None:
        branches.pop(letter, None)
    else:
        branches[letter] = behind
    return node_if_needed(value_at(node), branches)
