import random
import unittest

from surelyread.best import best
from surelyread.bounds import all_bounds, certifies
from surelyread.certain import least_with, margin, sure
from surelyread.counting import cost_counts, how_many, place_of, reading_at
from surelyread.errors import BadReading, BadRegion, BadWords, Fault, OutsideImage, PageError, TooLarge, TooMany
from surelyread.grammars import parse_grammar
from surelyread.needs import effort, needed
from surelyread.pixels import image_text, parse_image, patched
from surelyread.reader import Reader
from surelyread.readings import from_integers, leaves, to_integers
from surelyread.several import first_readings
from surelyread.strips import is_strip
from surelyread.worded import best_worded
from surelyread.writing import grammar_text
from tests.brute import NO_WISHES, Maker, cases, effort_of, looks_of, needed_of, pixels_of, ranked, regions_of

INK = "plain paper white; plain ink black cost 1; across page = (paper 1 to 3 | ink 1)*;"

# 0 l, 1 t, 2 gap, 3 line, 4 page
LETTERS = ('shape l "l" { "#." "#." "##" } shape t "t" { "##" ".#" ".#" } plain gap white;'
           ' across line = (l | t), (gap 1, (l | t))*; down page join "/" = line 3, (gap 1, line 3)*;')
LETTER_IMAGE = "##.##\n#...#\n##..#\n.....\n##.#.\n.###.\n.#.##\n"

# 0 w, 1 b, 2 line, 3 page
BITS = 'plain w white "o"; plain b black "x"; across line = (w 1 | b 1)*; down page = (line 1)*;'

# At 16 columns and 8 rows: 624 looks for each line, and one for each line of the page.
WIDE = "plain w white; plain b black; across line = (w | w | b | b | w 1 | b 1 | w 1 | b 1 | w 1)*; "


def error_of(call, *told):
    """The error that the call raises, or None."""
    try:
        call(*told)
    except PageError as error:
        return error
    return None


def kind_of(call, *told):
    """The class of the error that the call raises, or None."""
    error = error_of(call, *told)
    return None if error is None else type(error)


class Model:
    """What h2, h3 and h4 say of a reader, told as they do."""

    def __init__(self, parts, rows):
        self.parts = parts
        self.page = (len(parts) - 1, 0, 0, len(rows[0]), len(rows))
        self.now = (rows, [], [])
        self.past = []
        self.as_read = set()
        self.needed = needed_of(parts, self.page)

    def change(self, rows, fixed, forbidden):
        self.past = (self.past + [self.now])[-100:]
        self.become((rows, fixed, forbidden))

    def become(self, new):
        old, self.now = self.now, new
        pixels = {(x, y) for y, row in enumerate(old[0]) for x, sign in enumerate(row) if new[0][y][x] != sign}
        for one, other in zip(old[1:], new[1:]):
            for region in set(one) ^ set(other):
                pixels |= pixels_of(region)
        self.as_read = {region for region in self.as_read if not pixels_of(region) & pixels}

    def patch(self, x, y, patch):
        rows = [list(row) for row in self.now[0]]
        for at, row in enumerate(patch):
            rows[y + at][x:x + len(row)] = row
        self.change(tuple("".join(row) for row in rows), *self.now[1:])

    def wish(self, word, region):
        fixed = [one for one in self.now[1] if one != region or word == "fix"]
        forbidden = [one for one in self.now[2] if one != region or word == "forbid"]
        if word == "fix" and region not in fixed:
            fixed.append(region)
        if word == "forbid" and region not in forbidden:
            forbidden.append(region)
        self.change(self.now[0], fixed, forbidden)

    def undo(self):
        if not self.past:
            return False
        self.become(self.past.pop())
        return True

    def read(self):
        anew = self.needed - self.as_read
        self.as_read = set(self.needed)
        looks = sum(len(looks_of(self.parts, one)[1]) for one in anew if is_strip(self.parts[one[0]]))
        return len(anew), looks

    def wishes(self):
        return tuple(self.now[1]), tuple(self.now[2])

    def obeyed(self, reading):
        found = set(regions_of(self.parts, self.page, reading))
        return found.issuperset(self.now[1]) and found.isdisjoint(self.now[2])


def made(parts, rows, wishes):
    """A new reader with an image and wishes."""
    reader = Reader(grammar_text(parts), image_text(rows))
    for region in wishes[0]:
        reader.fix(region)
    for region in wishes[1]:
        reader.forbid(region)
    return reader


def change_at_random(chance, reader, model):
    """Makes a change, or takes one back, in a reader and in its model."""
    kind = chance.choice(("patch", "patch", "fix", "forbid", "free", "undo"))
    width, height = model.page[3:]
    if kind == "patch":
        x, y = chance.randrange(width), chance.randrange(height)
        patch = Maker(chance.randrange(10 ** 6)).image(chance.randint(1, width - x), chance.randint(1, height - y))
        reader.patch(x, y, image_text(patch))
        model.patch(x, y, patch)
        return kind, x, y, patch
    if kind == "undo":
        return kind, reader.undo(), model.undo()
    region = region_at_random(chance, model, kind == "fix")
    getattr(reader, kind)(region)
    model.wish(kind, region)
    return kind, region


def region_at_random(chance, model, leaf):
    """A wish region, often one that is needed or wished for already."""
    near = [one for one in sorted(model.needed) + model.now[1] * 3 + model.now[2] * 3
            if not leaf or not is_strip(model.parts[one[0]])]
    if near and chance.random() < 0.8:
        return chance.choice(near)
    numbers = [at for at, part in enumerate(model.parts) if not leaf or not is_strip(part)]
    width, height = model.page[3:]
    x, y = chance.randrange(width), chance.randrange(height)
    return (chance.choice(numbers), x, y, chance.randint(1, width - x), chance.randint(1, height - y))


class Made(unittest.TestCase):
    def test_examples_of_the_document(self):
        reader = Reader(INK, "#.#")
        self.assertEqual(reader.read(), (2, [0, 1, 0, 1, 0, 1, -1], 10, 9))
        self.assertEqual(reader.read(), (2, [0, 1, 0, 1, 0, 1, -1], 0, 0))
        self.assertIsNone(reader.fix((1, 0, 0, 1, 1)))
        self.assertEqual(reader.read(), (2, [1, 1, 0, 1, 0, 1, -1], 5, 9))
        reader = Reader(LETTERS, LETTER_IMAGE)
        self.assertEqual(reader.read()[0], 2)
        self.assertEqual((reader.margin((0, 0, 0, 2, 3)), reader.margin((2, 0, 3, 5, 1))), ((2,), (None,)))

    def test_what_is_new(self):
        reader = Reader(INK, "#.#")
        self.assertEqual(reader.image(), "#.#\n")
        self.assertEqual(reader.wishes(), ((), ()))
        self.assertIs(reader.undo(), False)

    def test_a_wrong_grammar_comes_first(self):
        for image in ("", "x", "." * 17, "#.#"):
            self.assertEqual(kind_of(Reader, "plain w", image), Fault)
            self.assertEqual(error_of(Reader, "plain w", image).column, 8)
            self.assertEqual(error_of(Reader, "plain w white cost 1001;", image).reason, "cost")

    def test_then_a_wrong_image(self):
        large = WIDE + "down page = (line 1)* | w 8;"
        for grammar in (INK, large):
            for image, told in (("", (1, 1, "not a row of pixels")), (".x", (1, 2, "unexpected character")),
                                ("..\n.", (2, 2, "row of another length"))):
                error = error_of(Reader, grammar, image)
                self.assertIs(type(error), Fault)
                self.assertEqual((error.line, error.column, error.reason), told)
            for image in ("." * 17, ".\n" * 17):
                self.assertIs(kind_of(Reader, grammar, image), TooLarge)
                self.assertEqual(error_of(Reader, grammar, image).reason, "image")

    def test_then_a_large_page(self):
        rows = ("." * 16 + "\n") * 8
        for text, number in (("down page = (line 1)*;", 5000), ("down page = (line 1)* | w 8;", 5001)):
            parts = parse_grammar(WIDE + text)
            self.assertEqual((effort(parts, 16, 8), effort_of(parts, 16, 8)), (number, number))
        reader = Reader(WIDE + "down page = (line 1)*;", rows)
        self.assertEqual(reader.read()[0], 0)
        self.assertEqual(reader.read()[2:], (0, 0))
        self.assertEqual(Reader(WIDE + "down page = (line 1)*;", rows).read()[3], 5000)
        error = error_of(Reader, WIDE + "down page = (line 1)* | w 8;", rows)
        self.assertIs(type(error), TooLarge)
        self.assertEqual(error.reason, "page")
        # A row less is small enough.
        self.assertEqual(Reader(WIDE + "down page = (line 1)* | w 8;", rows[17:]).read()[0], 0)
        parts = "plain w white; across a = (w | w)*; down b = (a | w)*; across c = (b | a)*; down p = (c | b)*;"
        self.assertEqual(error_of(Reader, parts, ("." * 16 + "\n") * 16).reason, "page")

    def test_a_leaf_as_the_page(self):
        reader = Reader('plain w white "a";', "#.\n..")
        self.assertEqual((reader.read(), reader.read()), ((1, [], 1, 0), (1, [], 0, 0)))
        self.assertEqual((reader.readings(3), reader.margins()), ([(1, [])], [((0, 0, 0, 2, 2), None)]))
        self.assertEqual((reader.place_of([]), reader.reading_at(0)), (0, []))
        self.assertEqual((reader.worded(("a",)), reader.worded(("b",))), ((1, []), None))
        reader.forbid((0, 0, 0, 2, 2))
        self.assertEqual(reader.read(), (None, None, 1, 0))
        reader = Reader('shape s { "#." }', "##\n##")
        self.assertEqual((reader.read(), reader.how_many()), ((None, None, 1, 0), 0))


class Patches(unittest.TestCase):
    def test_patches(self):
        reader = Reader(INK, "....\n....\n")
        self.assertIsNone(reader.patch(1, 0, "##\n.#\n"))
        self.assertEqual(reader.image(), ".##.\n..#.\n")
        reader.patch(3, 1, "#")
        self.assertEqual(reader.image(), ".##.\n..##\n")
        reader.patch(0, 0, "....\n####")
        self.assertEqual(reader.image(), "....\n####\n")
        reader.patch(0, 0, "....\n####")
        self.assertEqual([reader.undo() for _ in range(5)], [True] * 4 + [False])
        self.assertEqual(reader.image(), "....\n....\n")

    def test_faults_come_ahead_of_outside(self):
        reader = Reader(INK, "...\n...")
        for x, y in ((0, 0), (2, 0), (-1, 0), (0, -1), (9, 9), (-10 ** 20, 10 ** 20)):
            for text, told in (("", (1, 1)), ("#x", (1, 2)), ("#\n##", (2, 2)), ("#\n\n", (2, 1))):
                error = error_of(reader.patch, x, y, text)
                self.assertIs(type(error), Fault)
                self.assertEqual((error.line, error.column), told)
            for text in ("#" * 17, "#\n" * 17):
                self.assertIs(kind_of(reader.patch, x, y, text), TooLarge)
                self.assertEqual(error_of(reader.patch, x, y, text).reason, "image")
        for x, y, text in ((-1, 0, "#"), (0, -1, "#"), (-1, -1, "##\n##"), (3, 0, "#"), (0, 2, "#"), (2, 0, "##"),
                           (0, 1, "#\n#"), (0, 0, "####"), (10 ** 20, 0, "#"), (0, -10 ** 20, "#")):
            self.assertIs(kind_of(reader.patch, x, y, text), OutsideImage)
        self.assertEqual((reader.image(), reader.undo()), ("...\n...\n", False))


class Regions(unittest.TestCase):
    # 0 w, 1 s, 2 line, 3 page; a page of 3 columns and 2 rows.
    GRAMMAR = 'plain w white; shape s { "#" } across line = (w 1 | s)*; down page = (line 1)*;'

    WRONG = ((-1, 0, 0, 1, 1), (4, 0, 0, 1, 1), (10 ** 20, 0, 0, 1, 1), (0, -1, 0, 1, 1), (0, 0, -1, 1, 1),
             (0, 0, 0, 0, 1), (0, 0, 0, 1, 0), (0, 0, 0, -1, 1), (0, 2, 1, 1, -1), (0, 1, 0, 0, 0))
    OUTSIDE = ((0, 3, 0, 1, 1), (0, 0, 2, 1, 1), (0, 2, 0, 2, 1), (0, 0, 1, 1, 2), (0, 0, 0, 4, 1), (0, 0, 0, 3, 3),
               (3, 1, 1, 3, 2), (0, 9, 9, 1, 1), (1, 0, 0, 10 ** 20, 1))

    def setUp(self):
        self.reader = Reader(self.GRAMMAR, "#.#\n...")

    def test_wish_regions(self):
        for call in (self.reader.fix, self.reader.forbid, self.reader.free):
            for region in self.WRONG + self.OUTSIDE:
                self.assertIs(kind_of(call, region), BadRegion, region)
            for region in ((0, 0, 0, 3, 2), (0, 2, 1, 1, 1), (1, 0, 0, 1, 1), (1, 0, 0, 2, 2)):
                self.assertIsNone(call(region))

    def test_strips_cannot_be_fixed(self):
        for region in ((2, 0, 0, 3, 1), (2, 1, 1, 1, 1), (3, 0, 0, 3, 2), (2, 0, 0, 4, 1)):
            self.assertIs(kind_of(self.reader.fix, region), BadRegion)
        self.reader.forbid((2, 0, 0, 3, 1))
        self.assertIs(kind_of(self.reader.fix, (2, 0, 0, 3, 1)), BadRegion)
        self.reader.free((3, 0, 0, 1, 1))
        self.assertEqual(self.reader.wishes(), ((), ((2, 0, 0, 3, 1),)))

    def test_regions_that_are_asked(self):
        for call in (self.reader.margin, self.reader.least_with):
            for region in self.WRONG:
                self.assertIs(kind_of(call, region), BadRegion, region)
            for region in self.OUTSIDE:
                self.assertIn(call(region), ((0,), None))
        self.assertEqual(self.reader.margin((0, 9, 9, 1, 1)), (0,))
        self.assertEqual(self.reader.least_with((0, 9, 9, 1, 1)), None)
        self.assertEqual(self.reader.margin((2, 0, 0, 3, 1)), (None,))

    def test_a_refused_call_changes_nothing(self):
        reader = self.reader
        reader.fix((0, 0, 0, 1, 1))
        reader.forbid((2, 0, 0, 2, 1))
        reader.read()
        told = reader.wishes()
        for region in self.WRONG + self.OUTSIDE:
            for call in (reader.fix, reader.forbid, reader.free):
                self.assertIs(kind_of(call, region), BadRegion)
        self.assertIs(kind_of(reader.fix, (2, 0, 0, 2, 1)), BadRegion)
        for told_text in ("x", "#" * 17, "####"):
            self.assertIsNotNone(kind_of(reader.patch, 0, 0, told_text))
        self.assertIsNotNone(kind_of(reader.worded, ()))
        self.assertIsNotNone(kind_of(reader.place_of, [7]))
        self.assertIsNotNone(kind_of(reader.reading_at, -1))
        self.assertEqual((reader.wishes(), reader.image()), (told, "#.#\n...\n"))
        self.assertEqual(reader.read()[2:], (0, 0))
        self.assertEqual([reader.undo(), reader.wishes()], [True, (((0, 0, 0, 1, 1),), ())])
        self.assertEqual([reader.undo(), reader.wishes(), reader.undo()], [True, ((), ()), False])


class Wishes(unittest.TestCase):
    def check(self, reader, fixed, forbidden):
        self.assertEqual(reader.wishes(), (tuple(fixed), tuple(forbidden)))

    def test_orders(self):
        reader = Reader(BITS, "...\n...")
        a, b, c, d = (0, 0, 0, 1, 1), (1, 1, 0, 1, 1), (0, 2, 1, 1, 1), (1, 0, 1, 3, 1)
        for region in (b, a, d, c):
            self.assertIsNone(reader.fix(region))
        self.check(reader, (b, a, d, c), ())
        reader.fix(a)
        self.check(reader, (b, a, d, c), ())
        self.assertIsNone(reader.forbid(d))
        self.check(reader, (b, a, c), (d,))
        reader.forbid(b)
        self.check(reader, (a, c), (d, b))
        reader.forbid(d)
        self.check(reader, (a, c), (d, b))
        reader.fix(d)
        self.check(reader, (a, c, d), (b,))
        self.assertIsNone(reader.free(a))
        reader.fix(a)
        self.check(reader, (c, d, a), (b,))
        reader.free(b)
        self.check(reader, (c, d, a), ())

    def test_undo_step_by_step(self):
        reader = Reader(BITS, "...\n...")
        a, b = (0, 0, 0, 1, 1), (1, 1, 0, 1, 1)
        line = (2, 0, 0, 3, 1)
        steps = [(reader.fix, a), (reader.fix, b), (reader.forbid, a), (reader.forbid, line), (reader.fix, a),
                 (reader.free, b), (reader.free, b), (reader.fix, a), (reader.forbid, line), (reader.free, line),
                 (reader.free, (3, 0, 0, 1, 1)), (reader.forbid, b), (reader.fix, b)]
        told = [reader.wishes()]
        for call, region in steps:
            call(region)
            told.append(reader.wishes())
        self.assertEqual(told[-1], ((a, b), ()))
        self.assertEqual(told[4], ((b,), (a, line)))
        for expected in reversed(told[:-1]):
            self.assertIs(reader.undo(), True)
            self.assertEqual(reader.wishes(), expected)
        self.assertIs(reader.undo(), False)

    def test_a_change_that_changes_nothing_is_one(self):
        reader = Reader(BITS, "#..\n...")
        reader.patch(0, 0, "#.")
        reader.free((0, 0, 0, 1, 1))
        reader.fix((0, 0, 0, 1, 1))
        reader.fix((0, 0, 0, 1, 1))
        self.assertEqual([reader.undo() for _ in range(5)], [True] * 4 + [False])
        reader.patch(0, 0, ".")
        self.assertIs(reader.undo(), True)
        self.assertEqual(reader.image(), "#..\n...\n")

    def test_undo_of_an_undo_is_not_there(self):
        reader = Reader(BITS, "...\n...")
        reader.patch(0, 0, "#")
        reader.patch(1, 0, "#")
        reader.undo()
        reader.patch(2, 0, "#")
        self.assertEqual(reader.image(), "#.#\n...\n")
        self.assertEqual([reader.undo(), reader.image()], [True, "#..\n...\n"])
        self.assertEqual([reader.undo(), reader.image(), reader.undo()], [True, "...\n...\n", False])

    def test_100_changes_are_kept(self):
        for many, left in ((99, 0), (100, 0), (101, 1), (130, 30)):
            reader = Reader("plain w white; plain b black; across page = (w 1 | b 1)*;", "." * 8)
            images = [reader.image()]
            for at in range(1, many + 1):
                reader.patch(0, 0, f"{at:08b}".replace("0", ".").replace("1", "#"))
                images.append(reader.image())
            self.assertEqual(len(set(images)), many + 1)
            for at in range(many - 1, left - 1, -1):
                self.assertIs(reader.undo(), True)
                self.assertEqual(reader.image(), images[at])
            self.assertIs(reader.undo(), False)
            self.assertEqual(reader.image(), images[left])

    def test_changes_of_all_kinds_push_out_others(self):
        reader = Reader(BITS, "...\n...")
        reader.patch(0, 0, "#")
        for _ in range(33):
            reader.fix((0, 1, 0, 1, 1))
            reader.forbid((0, 1, 0, 1, 1))
            reader.free((0, 1, 0, 1, 1))
        self.assertEqual([reader.undo() for _ in range(101)], [True] * 100 + [False])
        self.assertEqual(reader.image(), "...\n...\n")
        reader.patch(0, 0, "#")
        for _ in range(33):
            reader.fix((0, 1, 0, 1, 1))
            reader.forbid((0, 1, 0, 1, 1))
            reader.free((0, 1, 0, 1, 1))
        reader.patch(2, 1, "#")
        self.assertEqual([reader.undo() for _ in range(101)], [True] * 100 + [False])
        self.assertEqual(reader.image(), "#..\n...\n")

    def test_changes_that_were_taken_back_do_not_count(self):
        reader = Reader(BITS, "...\n...")
        reader.patch(0, 0, "#")
        for _ in range(98):
            reader.free((0, 1, 0, 1, 1))
        for _ in range(150):
            reader.patch(1, 1, "#")
            self.assertIs(reader.undo(), True)
        reader.patch(2, 0, "#")
        self.assertEqual([reader.undo() for _ in range(101)], [True] * 100 + [False])
        self.assertEqual(reader.image(), "...\n...\n")


class Many(unittest.TestCase):
    def full(self, fixed):
        """A reader with 40 regions, some of them fixed and the others forbidden."""
        reader = Reader(BITS, ("." * 16 + "\n") * 5)
        regions = [(at % 2, at % 16, at // 16, 1, 1) for at in range(40)]
        for at, region in enumerate(regions):
            (reader.fix if at < fixed else reader.forbid)(region)
        return reader, regions

    def test_41_regions(self):
        for fixed in (0, 1, 17, 39, 40):
            reader, regions = self.full(fixed)
            told = reader.wishes()
            self.assertEqual((len(told[0]), len(told[1])), (fixed, 40 - fixed))
            for region in ((0, 9, 3, 1, 1), (1, 0, 0, 1, 1), (0, 0, 0, 16, 5)):
                self.assertIs(kind_of(reader.fix, region), TooMany)
                self.assertIs(kind_of(reader.forbid, region), TooMany)
            self.assertIs(kind_of(reader.forbid, (2, 0, 0, 16, 1)), TooMany)
            self.assertEqual(reader.wishes(), told)

    def test_wrong_regions_come_first(self):
        reader, _ = self.full(20)
        for region in ((0, 16, 0, 1, 1), (9, 0, 0, 1, 1), (0, 0, 0, 0, 1)):
            self.assertIs(kind_of(reader.fix, region), BadRegion)
            self.assertIs(kind_of(reader.forbid, region), BadRegion)
        self.assertIs(kind_of(reader.fix, (2, 0, 0, 16, 1)), BadRegion)

    def test_regions_that_are_wished_for_already(self):
        reader, regions = self.full(20)
        for region in regions:
            reader.fix(region)
            reader.forbid(region)
            reader.forbid(region)
            reader.fix(region)
        self.assertEqual(reader.wishes()[1], ())
        self.assertEqual(set(reader.wishes()[0]), set(regions))

    def test_room_is_made(self):
        reader, regions = self.full(20)
        other = (0, 9, 3, 1, 1)
        reader.free((0, 10, 3, 1, 1))
        self.assertIs(kind_of(reader.fix, other), TooMany)
        reader.free(regions[30])
        reader.fix(other)
        self.assertIs(kind_of(reader.forbid, regions[30]), TooMany)
        reader.undo()
        reader.forbid(other)
        self.assertEqual(reader.wishes(), (tuple(regions[:20]), tuple(regions[20:30] + regions[31:]) + (other,)))
        self.assertIs(kind_of(reader.forbid, regions[30]), TooMany)
        # The refused calls are none that can be taken back.
        reader.undo()
        reader.undo()
        self.assertEqual(reader.wishes(), (tuple(regions[:20]), tuple(regions[20:])))


class Read(unittest.TestCase):
    # 0 w, 1 b, 2 line, 3 page; a line of 3 has 7 regions and 6 looks. A page of 2 lines has
    # 2 lines and itself.
    def setUp(self):
        self.reader = Reader(BITS, "...\n...")

    def check(self, regions, looks):
        self.assertEqual(self.reader.read()[2:], (regions, looks))

    def test_no_change(self):
        self.check(15, 14)
        self.check(0, 0)
        self.check(0, 0)

    def test_patches(self):
        self.check(15, 14)
        self.reader.patch(1, 0, "#")
        self.check(2 + 1 + 1, 6 + 2)
        self.check(0, 0)
        self.reader.patch(0, 0, "##\n.#")
        self.check(2 * 2 + 2 + 1, 2 * 6 + 2)
        self.reader.patch(0, 0, "##\n.#")
        self.check(0, 0)
        self.reader.patch(0, 0, "...\n...")
        self.check(3 * 2 + 2 + 1, 2 * 6 + 2)

    def test_a_pixel_that_is_changed_and_changed_back(self):
        self.check(15, 14)
        self.reader.patch(2, 1, "#")
        self.reader.patch(2, 1, ".")
        self.check(4, 8)
        self.reader.patch(2, 1, "#")
        self.reader.undo()
        self.check(4, 8)
        self.reader.patch(2, 1, ".")
        self.reader.undo()
        self.check(0, 0)

    def test_wishes(self):
        self.check(15, 14)
        self.reader.fix((1, 1, 0, 1, 1))
        self.check(4, 8)
        self.reader.fix((1, 1, 0, 1, 1))
        self.check(0, 0)
        self.reader.forbid((1, 1, 0, 1, 1))
        self.check(4, 8)
        self.reader.free((1, 1, 0, 1, 1))
        self.check(4, 8)
        self.reader.free((1, 1, 0, 1, 1))
        self.check(0, 0)
        self.reader.forbid((2, 0, 1, 3, 1))
        self.check(8, 8)
        # Not a needed region, but it has pixels in common with needed ones.
        self.reader.forbid((0, 1, 0, 1, 2))
        self.check(2 * 2 + 2 + 1, 14)
        self.reader.fix((0, 0, 0, 3, 2))
        self.check(15, 14)
        for regions, looks in ((15, 14), (7, 14), (8, 8), (0, 0), (4, 8), (4, 8), (0, 0), (4, 8)):
            self.assertTrue(self.reader.undo())
            self.check(regions, looks)
        self.assertFalse(self.reader.undo())
        self.check(0, 0)

    def test_changes_add_up(self):
        self.reader.patch(0, 0, "#")
        self.check(15, 14)
        self.reader.patch(0, 0, ".")
        self.reader.fix((0, 2, 1, 1, 1))
        self.check(2 * 2 + 2 + 1, 14)
        self.reader.fix((0, 0, 0, 2, 1))
        self.reader.undo()
        self.reader.undo()
        self.check(6 + 2 + 1, 14)

    def test_other_questions_do_not_count(self):
        reader = self.reader
        reader.margins()
        reader.readings(3)
        reader.bounds()
        self.check(15, 14)
        reader.patch(0, 0, "#")
        for call in (reader.margins, reader.bounds, reader.how_many, reader.image, reader.wishes):
            call()
        reader.sure(2)
        reader.margin((3, 0, 0, 3, 2))
        reader.worded(("o",))
        self.check(4, 8)

    def test_two_readers_of_one_grammar(self):
        other = Reader(BITS, "...\n...")
        self.check(15, 14)
        other.patch(0, 0, "###")
        other.fix((1, 0, 0, 1, 1))
        self.check(0, 0)
        self.assertEqual((self.reader.image(), self.reader.wishes()), ("...\n...\n", ((), ())))
        self.assertFalse(self.reader.undo())
        self.assertEqual(other.read()[2:], (15, 14))
        self.reader.patch(2, 1, "#")
        self.assertEqual(other.read()[2:], (0, 0))
        self.check(4, 8)

    def test_what_is_returned_is_new(self):
        told = self.reader.read()
        told[1].clear()
        self.assertEqual(self.reader.read()[1], [0, 1, 0, 1, 0, 1, 0, 1, -1, 0, 1, 0, 1, 0, 1, 0, 1, -1, -1])
        self.reader.margins().clear()
        self.reader.readings(1)[0][1].clear()
        self.assertEqual(len(self.reader.margins()), 6)


class Against(unittest.TestCase):
    """Readers with many changes and questions behind them."""

    def check_read(self, reader, model, told):
        cost, integers, regions, looks = reader.read()
        # All readings that obey, as c10 tells it: the wishes lie in the page.
        found = [pair for pair in ranked(model.parts, model.page, model.now[0], NO_WISHES) if model.obeyed(pair[1])]
        expected = (found[0][0], to_integers(found[0][1])) if found else (None, None)
        self.assertEqual(((cost, integers), (regions, looks)), (expected, model.read()), told)
        self.assertEqual(reader.image(), image_text(model.now[0]), told)
        self.assertEqual(reader.wishes(), model.wishes(), told)

    def test_read_against_all_readings(self):
        chance = random.Random(131)
        reads = 0
        for parts, region, _, _ in cases(131, 50, limit=60):
            rows = Maker(chance.randrange(10 ** 6)).image(*region[3:])
            reader, model = made(parts, rows, NO_WISHES), Model(parts, rows)
            told = [parts, rows]
            for _ in range(40):
                told.append(change_at_random(chance, reader, model))
                if chance.random() < 0.5:
                    self.check_read(reader, model, told)
                    reads += 1
        self.assertGreater(reads, 800)

    def test_all_questions_against_a_new_reader(self):
        chance = random.Random(132)
        for parts, region, _, _ in cases(132, 40, limit=60):
            rows = Maker(chance.randrange(10 ** 6)).image(*region[3:])
            reader, model = made(parts, rows, NO_WISHES), Model(parts, rows)
            for _ in range(12):
                for _ in range(chance.randint(1, 3)):
                    change_at_random(chance, reader, model)
                fresh = made(parts, model.now[0], model.wishes())
                self.assertEqual(reader.wishes(), fresh.wishes())
                for name, asked in self.questions(chance, fresh, model):
                    if chance.random() < 0.6:
                        with self.subTest(parts=parts, now=model.now, name=name, asked=asked):
                            self.check_question(reader, fresh, name, asked)

    def questions(self, chance, fresh, model):
        """(name, arguments) of questions, in any order."""
        found = [("read", ()), ("margins", ()), ("bounds", ()), ("how_many", ()), ("sure", (chance.randint(0, 3),)),
                 ("readings", (chance.randint(1, 20),)), ("cost_counts", (chance.randint(0, 9),)),
                 ("place_of", ([],)), ("reading_at", (-1,)), ("worded", ((),)),
                 ("worded", (("a", "b"),)), ("reading_at", (fresh.how_many(),))]
        for _ in range(2):
            region = region_at_random(chance, model, False)
            found += [("margin", (region,)), ("least_with", (region,)), ("margin", ((0, *region[1:]),))]
        if fresh.how_many():
            integers = fresh.reading_at(chance.randrange(fresh.how_many()))
            found += [("place_of", (integers,)), ("place_of", (integers + [-1],)),
                      ("reading_at", (fresh.place_of(integers),))]
        bounds, least = fresh.bounds(), fresh.read()[0]
        for cost in (least, None, 0, (least or 0) + 1):
            found.append(("certifies", (bounds, cost)))
        return chance.sample(found, len(found))

    def check_question(self, reader, fresh, name, asked):
        answers = []
        for one in (reader, fresh):
            try:
                answers.append(getattr(one, name)(*asked))
            except PageError as error:
                answers.append(type(error))
        if name == "read":
            # Both read: what is to be looked at anew is checked elsewhere.
            answers = [answer[:2] for answer in answers]
        self.assertEqual(*answers)

    def test_a_large_page_read_again_and_again(self):
        chance = random.Random(133)
        text = WIDE + "down page = (line 1)*;"
        rows = Maker(134).image(16, 8)
        reader = Reader(text, image_text(rows))
        parts = parse_grammar(text)
        self.assertEqual(reader.read()[2:], (len(needed_of(parts, (3, 0, 0, 16, 8))), 5000))
        for at in range(30):
            x, y = chance.randrange(15), chance.randrange(8)
            patch = Maker(at).image(2, 1)
            rows = patched(rows, x, y, patch)
            reader.patch(x, y, patch[0])
            found = best(parts, (3, 0, 0, 16, 8), rows, NO_WISHES)
            told = reader.read()
            self.assertEqual(told[:2], (found[0], to_integers(found[1])))
            self.assertIn(told[3], (0, 624 + 8))


class Asked(unittest.TestCase):
    def test_against_the_modules(self):
        chance = random.Random(135)
        for parts, region, _, wishes in cases(135, 60, limit=80):
            page = (len(parts) - 1, 0, 0) + region[3:]
            rows = Maker(chance.randrange(10 ** 6)).image(*page[3:])
            told = tuple(tuple(one for one in row if one[1] + one[3] <= page[3] and one[2] + one[4] <= page[4])
                         for row in wishes)
            told = (tuple(one for one in told[0] if one not in told[1]), told[1])
            reader = made(parts, rows, told)
            with self.subTest(parts=parts, rows=rows, wishes=told):
                self.assertEqual(reader.wishes(), told)
                self.check_all(chance, reader, (parts, page, rows, told))

    def check_all(self, chance, reader, case):
        parts, page, _, wishes = case
        found = best(*case)
        self.assertEqual(reader.read()[:2], (None, None) if found is None else (found[0], to_integers(found[1])))
        self.assertEqual(reader.readings(5), [(cost, to_integers(one)) for cost, one in first_readings(*case, 5)])
        for asked in chance.sample(needed(parts, page), 2) + [(0, 3, 0, 3, 1), (0, 0, 0, 1, 1)]:
            self.assertEqual(reader.margin(asked), margin(*case, asked))
            self.assertEqual(reader.least_with(asked), least_with(*case, asked))
        self.assertEqual([reader.sure(most) for most in range(3)], [sure(*case, most) for most in range(3)])
        self.assertEqual(reader.margins(), None if found is None else
                         [(leaf, *margin(*case, leaf)) for leaf in leaves(parts, page, found[1])])
        bounds = all_bounds(*case)
        self.assertEqual(reader.bounds(), bounds)
        for cost in (None, 0, 1, 2, 3, 4, None if found is None else found[0]):
            self.assertIs(reader.certifies(bounds, cost), certifies(*case, bounds, cost))
        many = how_many(parts, page, wishes)
        self.assertEqual(reader.how_many(), many)
        self.assertEqual(reader.cost_counts(9), cost_counts(*case, 9))
        for place in range(min(many, 5)):
            integers = to_integers(reading_at(parts, page, wishes, place))
            self.assertEqual(reader.reading_at(place), integers)
            reading = from_integers(parts, page, integers)
            self.assertEqual((reader.place_of(integers), place_of(parts, page, wishes, reading)), (place, place))
        self.assertIs(kind_of(reader.reading_at, many), BadReading)
        told = best_worded(*case, ("a", "b"))
        self.assertEqual(reader.worded(("a", "b")), None if told is None else (told[0], to_integers(told[1])))

    def test_plain_values(self):
        reader = Reader(INK, "#.#")
        self.assertEqual(reader.readings(2), [(2, [0, 1, 0, 1, 0, 1, -1]), (2, [0, 1, 0, 1, 1, 1, -1])])
        self.assertEqual((reader.how_many(), reader.cost_counts(4)), (13, [0, 0, 9, 0, 4]))
        self.assertEqual((reader.place_of([0, 1, 0, 1, 1, 1, -1]), reader.reading_at(1)), (1, [0, 1, 0, 1, 1, 1, -1]))
        self.assertEqual(reader.least_with((1, 1, 0, 1, 1)), 4)
        self.assertEqual(reader.worded(("a",)), (2, [0, 1, 0, 1, 0, 1, -1]))
        reader.fix((1, 0, 0, 1, 1))
        self.assertEqual((reader.how_many(), reader.place_of([1, 1, 0, 1, 0, 1, -1])), (5, 0))
        self.assertEqual(reader.margins(), [((1, 0, 0, 1, 1), None), ((0, 1, 0, 1, 1), 0), ((0, 2, 0, 1, 1), 0)])
        self.assertEqual(reader.sure(0), [(1, 0, 0, 1, 1)])
        self.assertIs(kind_of(reader.place_of, [0, 1, 0, 1, 0, 1, -1]), BadReading)

    def test_no_allowed_reading(self):
        reader = Reader(INK, "#.#")
        reader.forbid((2, 0, 0, 3, 1))
        self.assertEqual(reader.read()[:2], (None, None))
        self.assertEqual((reader.readings(3), reader.margin((0, 0, 0, 1, 1)), reader.least_with((0, 0, 0, 1, 1))),
                         ([], (), None))
        self.assertEqual((reader.sure(1), reader.margins(), reader.how_many(), reader.cost_counts(1)),
                         (None, None, 0, [0, 0]))
        self.assertEqual(reader.worded(("a",)), None)
        self.assertIs(reader.certifies(reader.bounds(), None), True)

    def test_errors(self):
        reader = Reader(INK, "#.#")
        for integers in ([], [0, 1, -1], [0, 3], [0, 3, -1, -1], [5, 3, -1]):
            self.assertIs(kind_of(reader.place_of, integers), BadReading)
        for place in (-1, 13, 2 ** 60):
            self.assertIs(kind_of(reader.reading_at, place), BadReading)
        for words in ((), ("",), ("a b",), ("a", "a"), ("a" * 11,)):
            self.assertIs(kind_of(reader.worded, words), BadWords)

    def test_41_leaves(self):
        reader = Reader(BITS, ("." * 10 + "\n") * 4)
        self.assertEqual((len(reader.margins()), len(reader.sure(0))), (40, 40))
        reader = Reader(BITS, ("." * 7 + "\n") * 6)
        self.assertIs(kind_of(reader.margins), TooMany)
        self.assertIs(kind_of(reader.sure, 0), TooMany)
        reader.forbid((3, 0, 0, 7, 6))
        self.assertEqual((reader.margins(), reader.sure(0)), (None, None))

    def test_many_bounds(self):
        reader = Reader(WIDE + "down page = (line 1)*;", ("." * 16 + "\n") * 8)
        self.assertIs(kind_of(reader.bounds), TooMany)
        self.assertIs(reader.certifies([], 0), True)
        self.assertIs(reader.certifies([], 1), False)

    def test_large_numbers(self):
        reader = Reader(BITS, ("#." * 8 + "\n") * 16)
        self.assertEqual(reader.how_many(), 2 ** 256)
        for place in (0, 2 ** 53 + 1, 2 ** 200 + 1, 2 ** 256 - 1):
            self.assertEqual(reader.place_of(reader.reading_at(place)), place)
        self.assertIs(kind_of(reader.reading_at, 2 ** 256), BadReading)

    def test_arguments_are_not_changed(self):
        reader = Reader(INK, "#.#")
        integers, bounds = [0, 1, 0, 1, 1, 1, -1], reader.bounds()
        kept = list(bounds)
        reader.place_of(integers)
        reader.certifies(bounds, 1)
        self.assertEqual((integers, bounds), ([0, 1, 0, 1, 1, 1, -1], kept))
        self.assertEqual(parse_image(reader.image()), ("#.#",))


if __name__ == "__main__":
    unittest.main()
