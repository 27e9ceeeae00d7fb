"""Books, and the trees that grow by them."""

from cavesweep.checks import check_positive, is_name
from cavesweep.errors import InvalidBook, InvalidNumber, UnknownName
from cavesweep.labels import label_from

MOST_DEPTH = 200
MOST_WAYS = 99


def is_entry(thing):
    """Return whether any object is a tuple of a name and a tuple of at most six things."""
    if type(thing) is not tuple or len(thing) != 2:
        return False
    return is_name(thing[0]) and type(thing[1]) is tuple and len(thing[1]) <= 6


def is_book(thing):
    """Return whether any object is a book."""
    if type(thing) is not tuple or not 1 <= len(thing) <= 6 or not all([is_entry(entry) for entry in thing]):
        return False
    words = [entry[0] for entry in thing]
    if words != sorted(set(words)):
        return False
    return all([is_name(part) and part in words for entry in thing for part in entry[1]])


def check_name(book, name):
    """Raise InvalidBook, UnknownName, for any objects."""
    if not is_book(book):
        raise InvalidBook("this is no book")
    if not is_name(name) or name not in [entry[0] for entry in book]:
        raise UnknownName("the book does not have the name")


def check_growth(book, name, depth):
    """Raise InvalidBook, UnknownName, InvalidNumber, for any objects."""
    check_name(book, name)
    if type(depth) is not int or not 0 <= depth <= MOST_DEPTH:
        raise InvalidNumber("this is no depth")


def worth_by_depth(book, name, depth, worth_of):
    """Return the list of what a name is worth at each depth up to this one.

    What a name is worth is had, by worth_of, from the list of what grows at its room.
    """
    worth = {word: worth_of([]) for word, _ in book}
    found = [worth[name]]
    for _ in range(depth):
        worth = {word: worth_of([worth[part] for part in names]) for word, names in book}
        found.append(worth[name])
    return found


def ways_from(parts):
    """Return how many ways there are with the way to a room where parts of so many ways grow."""
    return 1 + sum(parts)


def grown_label(book, name, depth):
    """Return the label of what grows for a name and a depth, as a branch at the foot."""
    check_growth(book, name, depth)
    return worth_by_depth(book, name, depth, label_from)[-1]


def grown_number(book, name, depth):
    """Return the number of the tree that grows for a name and a depth."""
    return grown_label(book, name, depth)[0]


def grown_ways(book, name, depth):
    """Return how many ways the tree has that grows for a name and a depth."""
    check_growth(book, name, depth)
    return worth_by_depth(book, name, depth, ways_from)[-1]


def grown_cave(book, name, depth):
    """Return the tree that grows for a name and a depth, or None if it has more ways than a hundred rooms allow."""
    if grown_ways(book, name, depth) > MOST_WAYS:
        return None
    names_of = {word: names for word, names in book}
    ways = []
    todo = [(0, name, depth)]
    while todo:
        foot, word, left = todo.pop()
        room = len(ways) + 1
        ways.append((foot, room))
        # What comes last is taken up first.
        if left > 0:
            todo.extend([(room, part, left - 1) for part in names_of[word][::-1]])
    return tuple(sorted(ways))


def least_depth(book, name, k):
    """Return the least depth for which the number is k or more, or None."""
    check_name(book, name)
    check_positive(k)
    for depth, label in enumerate(worth_by_depth(book, name, MOST_DEPTH, label_from)):
        if label[0] >= k:
            return depth
    return None
