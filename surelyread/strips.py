"""Strips: the machines of their expressions, and the pieces that they put."""

WIDEST = 24
REPEATS = (("*", "any"), ("+", "some"), ("?", "maybe"))


def is_strip(part):
    """Whether a part is a strip, and no plain part or shape."""
    return part[0] in ("across", "down")


def usual_joint(direction):
    """The joint of a strip whose text tells none."""
    return "" if direction == "across" else "\n"


def usual_sizes(direction, part):
    """The least and the greatest size of a part in a strip whose text tells none."""
    if part[0] != "shape":
        return (1, WIDEST)
    rows = part[4]
    size = len(rows[0]) if direction == "across" else len(rows)
    return (size, size)


def extent(part, region):
    """The size of a region of a strip in the direction of the strip."""
    return region[3] if part[0] == "across" else region[4]


def piece_region(part, region, offset, size, inner):
    """The region of the part inner, of this size, at an offset in a region of the strip."""
    _, x, y, width, height = region
    if part[0] == "across":
        return (inner, x + offset, y, size, height)
    return (inner, x, y + offset, width, size)


def page_region(parts, width, height):
    """The region of the page with this width and height."""
    return (len(parts) - 1, 0, 0, width, height)


def list_places(expression):
    """The places of an expression, in the order of the text."""
    if expression[0] == "place":
        return [expression]
    if expression[0] in ("sequence", "choice"):
        found = []
        for item in expression[1]:
            found.extend(list_places(item))
        return found
    return list_places(expression[1])


def outline(expression, number):
    """How the places of an expression follow one another; its first place has this number.

    Whether the empty row is allowed; the places that can stand first; those that can
    stand last; the pairs of places that can stand directly behind one another.
    """
    if expression[0] == "place":
        return False, [number], [number], []
    if expression[0] == "sequence":
        return outline_of_sequence(expression[1], number)
    if expression[0] == "choice":
        return outline_of_choice(expression[1], number)
    empty, first, last, pairs = outline(expression[1], number)
    if expression[0] == "maybe":
        return True, first, last, pairs
    return empty or expression[0] == "any", first, last, pairs + all_pairs(last, first)


def all_pairs(ahead, behind):
    """Each pair of one of the places ahead and one of those behind."""
    return [(one, other) for one in ahead for other in behind]


def outline_of_sequence(items, number):
    """The outline of a sequence of the items."""
    empty, first, last, pairs = True, [], [], []
    for item in items:
        item_empty, item_first, item_last, item_pairs = outline(item, number)
        pairs = pairs + item_pairs + all_pairs(last, item_first)
        if empty:
            first = first + item_first
        last = last + item_last if item_empty else item_last
        empty = empty and item_empty
        number += len(list_places(item))
    return empty, first, last, pairs


def outline_of_choice(items, number):
    """The outline of a choice of the items."""
    empty, first, last, pairs = False, [], [], []
    for item in items:
        item_empty, item_first, item_last, item_pairs = outline(item, number)
        empty = empty or item_empty
        first = first + item_first
        last = last + item_last
        pairs = pairs + item_pairs
        number += len(list_places(item))
    return empty, first, last, pairs


def machine(choice):
    """The machine of an expression: (ends, moves)."""
    empty, first, last, pairs = outline(choice, 1)
    places = list_places(choice)
    behaviours = [(empty, tuple(first))]
    for number in range(1, len(places) + 1):
        behind = sorted({other for one, other in pairs if one == number})
        behaviours.append((number in last, tuple(behind)))
    states = []
    for behaviour in behaviours:
        if behaviour not in states:
            states.append(behaviour)
    moves = []
    for origin in range(len(states)):
        for number in states[origin][1]:
            _, part, least, most, cost = places[number - 1]
            target = states.index(behaviours[number])
            moves.append((origin, target, part, least, most, cost))
    return tuple([state[0] for state in states]), tuple(moves)


def machines(parts):
    """The machine of each strip, and () for each other part, in the order of the parts."""
    return tuple([machine(part[3]) if is_strip(part) else () for part in parts])
