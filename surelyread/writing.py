"""The normal text of a grammar."""

from surelyread.strips import REPEATS, usual_joint, usual_sizes

# The kinds of expressions that need brackets within a choice, a sequence and a repeat.
IN_CHOICES = ("choice",)
IN_SEQUENCES = ("choice", "sequence")
IN_REPEATS = ("choice", "sequence", "any", "some", "maybe")


def grammar_text(parts):
    """The normal text of a grammar."""
    return "".join([part_text(parts, part) for part in parts])


def part_text(parts, part):
    """The lines of a part."""
    if part[0] == "shape":
        return shape_text(part)
    if part[0] == "plain":
        return plain_text(part)
    return strip_text(parts, part)


def shape_text(part):
    """The lines of a shape."""
    _, name, label, cost, rows = part
    signs = ["shape", name] + label_signs(label) + cost_signs(cost) + ["{"]
    lines = ["  " + quoted(row) + "\n" for row in rows]
    return " ".join(signs) + "\n" + "".join(lines) + "}\n"


def plain_text(part):
    """The line of a plain part."""
    _, name, label, cost, black = part
    colour = "black" if black else "white"
    signs = ["plain", name, colour] + label_signs(label) + cost_signs(cost)
    return " ".join(signs) + ";\n"


def strip_text(parts, part):
    """The line of a strip."""
    direction, name, joint, choice = part
    signs = [direction, name]
    if joint != usual_joint(direction):
        signs.extend(["join", quoted(joint)])
    signs.extend(["=", expression_text(parts, direction, choice, ())])
    return " ".join(signs) + ";\n"


def quoted(text):
    """A text as a quoted text."""
    return '"' + text.replace('"', '""') + '"'


def label_signs(label):
    """The signs of a label: none for an empty one."""
    return [] if label == "" else [quoted(label)]


def cost_signs(cost):
    """The signs of a cost: none for 0."""
    return [] if cost == 0 else ["cost", str(cost)]


def expression_text(parts, direction, expression, bracketed):
    """The text of an expression, in brackets if it is of the kinds told."""
    kind = expression[0]
    if kind == "place":
        return place_text(parts, direction, expression)
    if kind == "choice":
        text = " | ".join([expression_text(parts, direction, item, IN_CHOICES) for item in expression[1]])
    elif kind == "sequence":
        text = ", ".join([expression_text(parts, direction, item, IN_SEQUENCES) for item in expression[1]])
    else:
        text = expression_text(parts, direction, expression[1], IN_REPEATS) + mark_of(kind)
    return "(" + text + ")" if kind in bracketed else text


def mark_of(repeat):
    """The symbol of any, some or maybe."""
    return [mark for mark, kind in REPEATS if kind == repeat][0]


def place_text(parts, direction, place):
    """The text of a place."""
    _, number, least, most, cost = place
    part = parts[number]
    signs = [part[1]]
    if (least, most) != usual_sizes(direction, part):
        signs.append(str(least))
        if most != least:
            signs.extend(["to", str(most)])
    return " ".join(signs + cost_signs(cost))
