"""A grammar and what it tells of readings of the page."""

from surelyread.drawing import cost, draw
from surelyread.grammars import parse_grammar
from surelyread.pixels import image_text, parse_image
from surelyread.readings import from_integers, leaves, price, regions, text_of
from surelyread.strips import page_region
from surelyread.writing import grammar_text


class Grammar:
    """The parts of a text. Its methods take readings of the page as lists of integers."""

    def __init__(self, text):
        self.parts = parse_grammar(text)

    def text(self):
        """The normal text."""
        return grammar_text(self.parts)

    def names(self):
        """The names of the parts."""
        return [part[1] for part in self.parts]

    def regions(self, integers, width, height):
        """The regions of the reading."""
        page = page_region(self.parts, width, height)
        return regions(self.parts, page, from_integers(self.parts, page, integers))

    def leaves(self, integers, width, height):
        """The regions of the reading that belong to plain parts and shapes."""
        page = page_region(self.parts, width, height)
        return leaves(self.parts, page, from_integers(self.parts, page, integers))

    def text_of(self, integers, width, height):
        """The text of the reading."""
        page = page_region(self.parts, width, height)
        return text_of(self.parts, page, from_integers(self.parts, page, integers))

    def draw(self, integers, width, height):
        """The normal text of the image that the reading draws."""
        page = page_region(self.parts, width, height)
        return image_text(draw(self.parts, page, from_integers(self.parts, page, integers)))

    def price(self, integers, width, height):
        """The price of the reading."""
        page = page_region(self.parts, width, height)
        return price(self.parts, page, from_integers(self.parts, page, integers))

    def cost(self, integers, image):
        """The cost of the reading for the image of a text."""
        rows = parse_image(image)
        page = page_region(self.parts, len(rows[0]), len(rows))
        return cost(self.parts, page, from_integers(self.parts, page, integers), rows)
