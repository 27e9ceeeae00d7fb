"""Nests: threes of branches, nested, that show how great the number of a tree is."""

from cavesweep.caves import check_tree, is_room, is_way, near_rooms, way_between
from cavesweep.checks import check_positive
from cavesweep.labels import labels_at


def branch(tree, room, other):
    """Return the branch of a tree at a room by a neighbour, as a tree."""
    near = near_rooms(tree)
    inside = {other: True}
    todo = [other]
    while todo:
        for beyond in near[todo.pop()]:
            if beyond != room and beyond not in inside:
                inside[beyond] = True
                todo.append(beyond)
    return tuple([way for way in tree if way[0] in inside or way[1] in inside])


def is_tuple_of(thing, many):
    """Return whether any object is a tuple of so many things."""
    return type(thing) is tuple and len(thing) == many


def is_nest_in(tree, k, thing):
    """Return whether any object is a nest of k, from 1 on, in a tree."""
    if k == 1:
        return is_way(thing) and thing in tree
    if not is_tuple_of(thing, 2):
        return False
    room, three = thing
    if not is_room(room) or not is_tuple_of(three, 3):
        return False
    last = -1
    for part in three:
        if not is_tuple_of(part, 2):
            return False
        other, inner = part
        if not is_room(other) or other <= last or way_between(room, other) not in tree:
            return False
        if not is_nest_in(branch(tree, room, other), k - 1, inner):
            return False
        last = other
    return True


def three_branches(near, k):
    """Return a room and three of its neighbours by which the branches have numbers of k or more, or None."""
    for room in near:
        if len(near[room]) > 2:
            labels = labels_at(near, room)
            great = [other for other in labels if labels[other][0] >= k]
            if len(great) > 2:
                return (room, great[:3])
    return None


def nest_in(tree, k):
    """Return a nest of k, from 1 on, in a tree, or None."""
    if k == 1:
        return tree[0]
    found = three_branches(near_rooms(tree), k - 1)
    if found is None:
        return None
    room, three = found
    return (room, tuple([(other, nest_in(branch(tree, room, other), k - 1)) for other in three]))


def is_nest(tree, k, thing):
    """Return whether any object is a nest of k in a tree."""
    check_tree(tree)
    check_positive(k)
    return is_nest_in(tree, k, thing)


def nest(tree, k):
    """Return a nest of k in a tree, or None if its number is less."""
    check_tree(tree)
    check_positive(k)
    return nest_in(tree, k)
