"""Labels of the branches of trees, and the numbers of trees."""

from cavesweep.caves import check_tree, is_room, near_rooms, way_between
from cavesweep.errors import InvalidLabel, InvalidWay


def is_label(thing):
    """Return whether any object is a label."""
    if type(thing) is not tuple or len(thing) == 0:
        return False
    for at, part in enumerate(thing):
        if type(part) is not int or part < 1 or (at > 0 and thing[at - 1] <= part):
            return False
    return True


def check_labels(labels, least):
    """Raise InvalidLabel if any object is no list of so many labels or more."""
    if type(labels) is not list or len(labels) < least or not all([is_label(label) for label in labels]):
        raise InvalidLabel("this is no such list of labels")


def split_labels(labels):
    """Return (alone, k, many, ending) of one or more labels.

    alone are the numbers, descending, that are left out one after the other, each of them the
    first one of just one label that has a second one. Of the labels that are left so many have
    k, the greatest number then, as their first one, and so many of these no second one.
    """
    # A label loses its greater numbers ahead of its lesser ones: when a number is the greatest
    # that is left, it is the first one of all the labels in which it stands.
    many = {}
    ending = {}
    for label in labels:
        for part in label:
            many[part] = many.get(part, 0) + 1
        ending[label[-1]] = ending.get(label[-1], 0) + 1
    # The least number of all ends its label, so the search below does not go beyond it.
    parts = sorted(many, reverse=True)
    at = 0
    while many[parts[at]] == 1 and parts[at] not in ending:
        at += 1
    k = parts[at]
    return (parts[:at], k, many[k], ending.get(k, 0))


def label_from(labels):
    """Return the label that is had from a list of labels, perhaps none."""
    if not labels:
        return (1,)
    alone, k, many, ending = split_labels(labels)
    # The label grows from its least number to its greatest one.
    parts = [k + 1]
    if many == 1:
        parts = [k]
    elif many == 2 and k > 1 and ending == 2:
        parts = [1, k]
    for part in reversed(alone):
        if parts[-1] >= part:
            parts = [part + 1]
        else:
            parts.append(part)
    parts.reverse()
    return tuple(parts)


def number_from(labels):
    """Return the number that is had from a list of one or more labels."""
    alone, k, many, ending = split_labels(labels)
    found = k + 1 if many > 2 or (many == 2 and ending < 2) else k
    for part in reversed(alone):
        found = part + 1 if found >= part else part
    return found


def labels_at(near, start):
    """Return a dict from each neighbour of a room, ascending, to the label of the branch at the room by it.

    near tells the tree: a dict from each room to the list of the rooms beside it.
    """
    came_from = {start: None}
    order = [start]
    at = 0
    while at < len(order):
        room = order[at]
        for other in near[room]:
            if other != came_from[room]:
                came_from[other] = room
                order.append(other)
        at += 1
    labels = {}
    for room in reversed(order[1:]):
        labels[room] = label_from([labels[other] for other in near[room] if other != came_from[room]])
    return {other: labels[other] for other in near[start]}


def joined(labels):
    """Return the label that is had from a list of labels, perhaps none."""
    check_labels(labels, 0)
    return label_from(labels)


def top(labels):
    """Return the number that is had from a list of at least one label."""
    check_labels(labels, 1)
    return number_from(labels)


def branch_label(tree, room, other):
    """Return the label of the branch of a tree at a room by a neighbour."""
    check_tree(tree)
    if not is_room(room) or not is_room(other) or way_between(room, other) not in tree:
        raise InvalidWay("there is no way between both")
    return labels_at(near_rooms(tree), room)[other]


def number(tree):
    """Return the least number of searchers of a sure script of a tree."""
    check_tree(tree)
    labels = labels_at(near_rooms(tree), tree[0][0])
    return number_from(list(labels.values()))
