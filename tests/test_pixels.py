import unittest

from surelyread.errors import Fault, OutsideImage, TooLarge
from surelyread.pixels import differing, image_text, parse_image, patched, pixel

from tests.helpers import check_fault, fault_of, too_large_of


class ParseImage(unittest.TestCase):
    def test_example_of_the_document(self):
        self.assertEqual(parse_image("#.\n.#"), ("#.", ".#"))
        self.assertEqual(fault_of(parse_image, "#.\n.\n"), (2, 2, "row of another length"))

    def test_with_and_without_the_last_newline(self):
        for rows in ((".",), ("#",), ("#.#",), ("#", ".", "#"), ("##.", "...", ".#."),
                     ("#." * 8,), ("." * 16, "#" * 16), ("#",) * 16, ("#." * 8,) * 16):
            with self.subTest(rows=rows):
                self.assertEqual(parse_image("\n".join(rows)), rows)
                self.assertEqual(parse_image("\n".join(rows) + "\n"), rows)

    def test_the_image_is_a_tuple_of_strings(self):
        rows = parse_image("#\n.")
        self.assertIs(type(rows), tuple)
        self.assertIs(type(rows[0]), str)

    def test_unexpected_characters(self):
        for text in ("@x", "@ ", "@x.\n..", ".@x.", ".@ \n..", "..\n@x.", "..\n.@x", "..\n@ .\n",
                     "..\n..@x", "..\n..@ \n", "..\n..\n@x", "#@0", "#\n@,\n",
                     "..\n..@x.", "..\n.@x..", ".\n.\n.@-"):
            check_fault(self, parse_image, text, "unexpected character")

    def test_every_other_character_is_unexpected(self):
        for code in range(32, 127):
            if chr(code) not in ".#" and code != 37:
                with self.subTest(character=chr(code)):
                    for text, place in ((chr(code), (1, 1)), ("." + chr(code) + "#", (1, 2)),
                                        ("#.\n#." + chr(code), (2, 3))):
                        self.assertEqual(
                            fault_of(parse_image, text), place + ("unexpected character",))

    def test_not_a_row_of_pixels(self):
        for text in ("@", "@\n", "@\n\n", "@\n.", ".\n@\n", ".\n@\n.", ".\n@\n.\n", ".\n.\n@\n",
                     "..\n@\n..", "..\n..\n@\n\n"):
            check_fault(self, parse_image, text, "not a row of pixels")

    def test_rows_of_another_length(self):
        for text in ("..\n..@.", "..\n..@#\n", ".\n.@##", "..\n..@.x", "..\n.@", "..\n.@\n",
                     "..\n.@\n..", "..\n..\n#@", "...\n.@\n...", "#\n#\n#@#\n"):
            check_fault(self, parse_image, text, "row of another length")

    def test_the_first_fault_is_told(self):
        self.assertEqual(fault_of(parse_image, "..\n.\nx"), (2, 2, "row of another length"))
        self.assertEqual(fault_of(parse_image, ".x\n.\n"), (1, 2, "unexpected character"))
        self.assertEqual(fault_of(parse_image, "..\n\nx"), (2, 1, "not a row of pixels"))

    def test_too_wide_or_too_high(self):
        self.assertEqual(too_large_of(parse_image, "." * 17), "image")
        self.assertEqual(too_large_of(parse_image, ".\n" * 17), "image")
        self.assertEqual(too_large_of(parse_image, "#" * 17 + "\n" + "#" * 17), "image")
        self.assertEqual(too_large_of(parse_image, ("." * 100 + "\n") * 100), "image")
        self.assertIsNone(too_large_of(parse_image, ("." * 16 + "\n") * 16))

    def test_faults_come_ahead_of_too_large(self):
        self.assertEqual(fault_of(parse_image, "." * 17 + "x"), (1, 18, "unexpected character"))
        self.assertEqual(fault_of(parse_image, "." * 17 + "\n."), (2, 2, "row of another length"))
        self.assertEqual(fault_of(parse_image, ".\n" * 17 + "\n"), (18, 1, "not a row of pixels"))
        self.assertEqual(fault_of(parse_image, ".\n" * 17 + "x"), (18, 1, "unexpected character"))

    def test_both_are_page_errors_of_their_own(self):
        with self.assertRaises(Fault):
            parse_image("")
        with self.assertRaises(TooLarge):
            parse_image("." * 17)


class ImageText(unittest.TestCase):
    def test_a_newline_behind_each_row(self):
        self.assertEqual(image_text(("#",)), "#\n")
        self.assertEqual(image_text(("#.", ".#", "..")), "#.\n.#\n..\n")
        self.assertEqual(image_text(("#." * 8,) * 16), ("#." * 8 + "\n") * 16)
        self.assertEqual(image_text((".",) * 16), ".\n" * 16)

    def test_it_is_read_as_the_same_image(self):
        for rows in (("#",), (".",), ("#..", "..#"), ("#", "."), ("." * 16,) * 16):
            self.assertEqual(parse_image(image_text(rows)), rows)
        self.assertEqual(image_text(parse_image("#.\n.#")), "#.\n.#\n")


class Pixel(unittest.TestCase):
    def test_inside(self):
        rows = ("#..", ".#.")
        found = [[pixel(rows, x, y) for x in range(3)] for y in range(2)]
        self.assertEqual(found, [[True, False, False], [False, True, False]])
        self.assertIs(pixel(rows, 0, 0), True)
        self.assertIs(pixel(rows, 1, 0), False)

    def test_outside_is_white(self):
        rows = ("###", "###")
        for x, y in ((-1, 0), (-1, 1), (3, 0), (3, 1), (0, -1), (2, -1), (0, 2), (2, 2), (-1, -1),
                     (3, 2), (-3, 0), (0, -2), (-4, -3), (100, 0), (0, 100), (-100, -100)):
            with self.subTest(x=x, y=y):
                self.assertIs(pixel(rows, x, y), False)
        self.assertIs(pixel(rows, 2, 1), True)


    def test_one_row_and_one_column(self):
        self.assertEqual([pixel((".#",), x, 0) for x in range(-1, 4)],
                         [False, False, True, False, False])
        self.assertEqual([pixel((".", "#"), 0, y) for y in range(-1, 4)],
                         [False, False, True, False, False])


class Differing(unittest.TestCase):
    def test_equal_images(self):
        self.assertEqual(differing(("#.", ".#"), ("#.", ".#")), 0)
        self.assertEqual(differing((".",), (".",)), 0)

    def test_unlike_images(self):
        self.assertEqual(differing(("#",), (".",)), 1)
        self.assertEqual(differing(("#.", ".#"), (".#", "#.")), 4)
        self.assertEqual(differing(("#..", "..."), ("..#", "...")), 2)
        self.assertEqual(differing(("...", "..."), ("...", "..#")), 1)
        self.assertEqual(differing(("#" * 16,) * 16, ("." * 16,) * 16), 256)


class Patched(unittest.TestCase):
    def test_example_of_the_document(self):
        self.assertEqual(patched(("...", "..."), 1, 0, ("##",)), (".##", "..."))

    def test_corners(self):
        rows = ("....", "....", "....")
        self.assertEqual(patched(rows, 0, 0, ("#",)), ("#...", "....", "...."))
        self.assertEqual(patched(rows, 3, 0, ("#",)), ("...#", "....", "...."))
        self.assertEqual(patched(rows, 0, 2, ("#",)), ("....", "....", "#..."))
        self.assertEqual(patched(rows, 3, 2, ("#",)), ("....", "....", "...#"))
        self.assertEqual(patched(rows, 2, 1, ("#.", ".#")), ("....", "..#.", "...#"))

    def test_edges_and_the_middle(self):
        rows = ("....", "....", "....")
        self.assertEqual(patched(rows, 1, 0, ("##",)), (".##.", "....", "...."))
        self.assertEqual(patched(rows, 1, 2, ("##",)), ("....", "....", ".##."))
        self.assertEqual(patched(rows, 0, 1, ("#", "#")), ("....", "#...", "#..."))
        self.assertEqual(patched(rows, 3, 1, ("#", "#")), ("....", "...#", "...#"))
        self.assertEqual(patched(rows, 1, 1, ("#",)), ("....", ".#..", "...."))

    def test_white_pixels_of_the_patch_stand_too(self):
        self.assertEqual(patched(("###", "###"), 1, 0, (".#", "#.")), ("#.#", "##."))

    def test_rows_that_differ(self):
        rows = ("#..#", ".##.", "#.#.", "...#")
        self.assertEqual(patched(rows, 1, 1, ("#.", "#.")), ("#..#", ".#..", "##..", "...#"))
        self.assertEqual(patched(rows, 2, 0, ("#", ".", ".", "#")), ("#.##", ".#..", "#...", "..##"))
        self.assertEqual(patched(rows, 0, 2, (".", "#")), ("#..#", ".##.", "..#.", "#..#"))

    def test_one_row_and_one_column(self):
        self.assertEqual(patched(("...",), 1, 0, ("#",)), (".#.",))
        self.assertEqual(patched((".", ".", "."), 0, 1, ("#", "#")), (".", "#", "#"))
        with self.assertRaises(OutsideImage):
            patched(("...",), 3, 0, ("#",))

    def test_the_whole_image(self):
        self.assertEqual(patched(("..", ".."), 0, 0, ("##", "#.")), ("##", "#."))

    def test_outside(self):
        rows = ("...", "...")
        for x, y, patch in ((3, 0, ("#",)), (2, 0, ("##",)), (0, 0, ("####",)), (0, 2, ("#",)),
                            (0, 1, ("#", "#")), (0, 0, ("#", "#", "#")), (3, 2, ("#",)),
                            (2, 1, ("##", "##")), (50, 0, (".",)), (0, 50, (".",))):
            with self.subTest(x=x, y=y, patch=patch):
                with self.assertRaises(OutsideImage):
                    patched(rows, x, y, patch)

    def test_what_was_passed_is_unchanged(self):
        rows = ("..", "..")
        patch = ("#",)
        self.assertEqual(patched(rows, 1, 1, patch), ("..", ".#"))
        self.assertEqual((rows, patch), (("..", ".."), ("#",)))
        self.assertIs(type(patched(rows, 0, 0, patch)), tuple)


if __name__ == "__main__":
    unittest.main()
