"""What several tests need: maps made of changes, and a plain dict's account of what a map must tell."""

from eldermap.trees import EMPTY, beginnings_of, changed, entries_of, nodes_of

# Every name of at most two letters out of a and b: among them beginnings of one another, neighbours
# and the empty name.
SMALL_NAMES = ["", "a", "aa", "ab", "b", "ba", "bb"]


def map_of(entries):
    """The root of a map with these entries, put in the order in which the dict has them."""
    root = EMPTY
    for name, value in entries.items():
        root = changed(root, name, value)[0]
    return root


def small_maps():
    """Every map of names from SMALL_NAMES, as dicts; each name has a value of its own, one the empty text."""
    maps = []
    for choice in range(2 ** len(SMALL_NAMES)):
        chosen = [name for place, name in enumerate(SMALL_NAMES) if choice >> place & 1]
        maps.append({name: name[::-1] for name in chosen})
    return maps


def after(entries, name, value):
    """The entries with the name's value changed, None for taken away."""
    new = dict(entries)
    new.pop(name, None)
    if value is not None:
        new[name] = value
    return new


def beginnings_told(entries):
    """What point 4 asks of a map with these entries, reckoned from the names alone."""
    texts = {name[:size] for name in entries for size in range(len(name) + 1)}
    rows = []
    for text in sorted(texts):
        letters = {longer[-1] for longer in texts if longer != "" and longer[:-1] == text}
        rows.append((text, entries.get(text), "".join(sorted(letters))))
    return rows


def nodes_by_beginning(root):
    return dict(nodes_of(root))


def check_change(case, root, entries, name, value):
    """Does one change and checks all that points 3, 4 and 5 say of it; gives back the new root."""
    elder = nodes_by_beginning(root)
    new_root, made = changed(root, name, value)
    younger = nodes_by_beginning(new_root)
    new_entries = after(entries, name, value)

    case.assertEqual(entries_of(new_root), sorted(new_entries.items()))
    case.assertEqual(beginnings_of(new_root), beginnings_told(new_entries))
    case.assertEqual(beginnings_of(root), beginnings_told(entries))

    if entries.get(name) == value:
        case.assertEqual(made, 0)
        case.assertIs(new_root, root)
        return new_root
    on_the_way = [text for text in younger if name.startswith(text)]
    case.assertEqual(made, len(on_the_way))
    for text, node in younger.items():
        if text in on_the_way:
            case.assertIsNot(node, elder.get(text), text)
        else:
            case.assertIs(node, elder[text], text)
    return new_root
