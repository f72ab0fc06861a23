import unittest
from functools import lru_cache

from surelyread.grammars import parse_grammar
from surelyread.strips import is_strip, machine, machines

# Long enough for each pair of neighbours in the rows of an expression with three places.
LONGEST = 6


def place(part):
    # Sizes and costs tell the places apart in the moves.
    return ("place", part, part + 1, part + 2, part + 3)


def move(origin, target, part):
    return (origin, target, part, part + 1, part + 2, part + 3)


@lru_cache(maxsize=None)
def rows_of(expression):
    """All rows of parts that the expression allows, up to the longest length."""
    kind = expression[0]
    if kind == "place":
        return frozenset({(expression[1],)})
    if kind == "choice":
        return frozenset().union(*[rows_of(item) for item in expression[1]])
    if kind == "sequence":
        found = {()}
        for item in expression[1]:
            found = joined(found, rows_of(item))
        return frozenset(found)
    inner = rows_of(expression[1])
    if kind == "maybe":
        return inner | {()}
    found = inner | {()} if kind == "any" else inner
    newest = inner
    while newest:
        newest = joined(newest, inner) - found
        found = found | newest
    return found


def joined(one, other):
    return {a + b for a in one for b in other if len(a) + len(b) <= LONGEST}


def places_of(expression):
    if expression[0] == "place":
        return [expression]
    if expression[0] in ("sequence", "choice"):
        return [found for item in expression[1] for found in places_of(item)]
    return places_of(expression[1])


def machine_by_rows(expression):
    """The machine, told by the rows that the expression allows; no part stands in it twice."""
    places = places_of(expression)
    numbers = {found[1]: number for number, found in enumerate(places, start=1)}
    behind = {number: set() for number in range(len(places) + 1)}
    ends = set()
    for row in rows_of(expression):
        whole = (0,) + tuple(numbers[part] for part in row)
        for one, other in zip(whole, whole[1:]):
            behind[one].add(other)
        ends.add(whole[-1])
    keys = [(number in ends, sorted(behind[number])) for number in range(len(places) + 1)]
    states = [key for at, key in enumerate(keys) if key not in keys[:at]]
    moves = tuple((state, states.index(keys[number])) + places[number - 1][1:]
                  for state in range(len(states)) for number in states[state][1])
    return tuple(key[0] for key in states), moves


def expressions(first, count):
    """Expressions of so many places, with the parts first, first + 1 and so on."""
    plain = []
    if count == 1:
        plain.append(place(first))
    for left in range(1, count):
        for one in expressions(first, left):
            for other in expressions(first + left, count - left):
                plain.append(("sequence", (one, other)))
                plain.append(("choice", (one, other)))
    repeated = [(kind, item) for item in plain for kind in ("any", "some", "maybe")]
    return plain + repeated


class Machine(unittest.TestCase):
    def test_examples_of_the_document(self):
        self.assertEqual(
            machine(("any", ("choice", (("place", 0, 1, 3, 0), ("place", 1, 1, 1, 0))))),
            ((True,), ((0, 0, 0, 1, 3, 0), (0, 0, 1, 1, 1, 0))))
        self.assertEqual(
            machine(("sequence", (("place", 0, 1, 24, 0), ("maybe", ("place", 1, 2, 2, 5))))),
            ((False, True, True), ((0, 1, 0, 1, 24, 0), (1, 2, 1, 2, 2, 5))))

    def test_a_place(self):
        self.assertEqual(machine(place(4)), ((False, True), (move(0, 1, 4),)))

    def test_a_sequence(self):
        self.assertEqual(machine(("sequence", (place(0), place(1), place(0)))), (
            (False, False, False, True), (move(0, 1, 0), move(1, 2, 1), move(2, 3, 0))))

    def test_a_choice(self):
        self.assertEqual(machine(("choice", (place(2), place(1), place(2)))), (
            (False, True), (move(0, 1, 2), move(0, 1, 1), move(0, 1, 2))))

    def test_any(self):
        self.assertEqual(machine(("any", place(0))), ((True,), (move(0, 0, 0),)))

    def test_some(self):
        self.assertEqual(machine(("some", place(0))), (
            (False, True), (move(0, 1, 0), move(1, 1, 0))))

    def test_maybe(self):
        self.assertEqual(machine(("maybe", place(0))), ((True, True), (move(0, 1, 0),)))

    def test_states_are_shared_and_in_order(self):
        # Behind the first place and behind the third one the second one can stand.
        gapped = ("sequence", (place(0), ("any", ("sequence", (place(1), place(2))))))
        self.assertEqual(machine(gapped), (
            (False, True, False), (move(0, 1, 0), move(1, 2, 1), move(2, 1, 2))))

    def test_states_that_differ_in_their_end_alone_are_not_shared(self):
        self.assertEqual(machine(("some", ("choice", (place(0), place(1))))), (
            (False, True), (move(0, 1, 0), move(0, 1, 1), move(1, 1, 0), move(1, 1, 1))))

    def test_states_are_numbered_by_their_least_places(self):
        choice = ("choice", (
            ("sequence", (place(0), place(1))), ("sequence", (place(2), place(3))), place(4)))
        self.assertEqual(machine(choice), (
            (False, False, True, False),
            (move(0, 1, 0), move(0, 3, 2), move(0, 2, 4), move(1, 2, 1), move(3, 2, 3))))

    def test_empty_rows_within(self):
        chain = ("sequence", (("maybe", place(0)), ("any", place(1)), ("maybe", place(2))))
        self.assertEqual(machine(chain), ((True, True, True), (
            move(0, 1, 0), move(0, 1, 1), move(0, 2, 2), move(1, 1, 1), move(1, 2, 2))))
        self.assertEqual(machine(("some", ("maybe", place(0)))), ((True,), (move(0, 0, 0),)))
        self.assertEqual(machine(("maybe", ("some", place(0)))), ((True,), (move(0, 0, 0),)))

    def test_all_small_expressions(self):
        found = expressions(0, 1) + expressions(0, 2) + expressions(0, 3)[::5]
        for expression in found:
            with self.subTest(expression=expression):
                self.assertEqual(machine(expression), machine_by_rows(expression))

    def test_repeats_of_repeats(self):
        for item in (place(0), ("sequence", (place(0), place(1))), ("choice", (place(0), place(1)))):
            for inner in ("any", "some", "maybe"):
                for outer in ("any", "some", "maybe"):
                    expression = ("sequence", ((outer, (inner, item)), ("maybe", place(5))))
                    with self.subTest(expression=expression):
                        self.assertEqual(machine(expression), machine_by_rows(expression))

    def test_kinds_of_values(self):
        ends, moves = machine(("any", place(0)))
        self.assertIs(type(ends), tuple)
        self.assertIs(ends[0], True)
        self.assertIs(type(moves), tuple)
        self.assertIs(type(moves[0]), tuple)


class Machines(unittest.TestCase):
    PARTS = parse_grammar(
        'plain w white; shape l { "#." } across line = (l | w)*; plain b black;'
        " down page = line, (b 1 cost 2, line 3 to 4)*;")

    def test_machines_of_all_parts(self):
        self.assertEqual(machines(self.PARTS), (
            (), (), ((True,), ((0, 0, 1, 2, 2, 0), (0, 0, 0, 1, 24, 0))), (),
            ((False, True, False), ((0, 1, 2, 1, 24, 0), (1, 2, 3, 1, 1, 2), (2, 1, 2, 3, 4, 0)))))

    def test_no_strip_at_all(self):
        self.assertEqual(machines(parse_grammar("plain w white;")), ((),))
        self.assertIs(type(machines(self.PARTS)), tuple)

    def test_is_strip(self):
        self.assertEqual([is_strip(part) for part in self.PARTS], [False, False, True, False, True])
        self.assertIs(is_strip(("across", "a", "", place(0))), True)
        self.assertIs(is_strip(("down", "a", "", place(0))), True)
        self.assertIs(is_strip(("plain", "across", "down", 0, True)), False)
        self.assertIs(is_strip(("shape", "down", "across", 0, ("#",))), False)


if __name__ == "__main__":
    unittest.main()
