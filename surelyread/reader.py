"""A reader: a page that is read, patched and wished about, in any order."""

from surelyread.best import Costs
from surelyread.bounds import all_bounds, certifies
from surelyread.certain import inside, least_with, margin, margins_by, sure
from surelyread.counting import cost_counts, how_many, place_of, reading_at
from surelyread.errors import BadRegion, TooLarge, TooMany
from surelyread.grammars import parse_grammar
from surelyread.learned import page_of
from surelyread.needs import Looks, effort, needed_by
from surelyread.pixels import image_text, parse_image, patched
from surelyread.readings import from_integers, to_integers
from surelyread.several import first_readings
from surelyread.strips import is_strip
from surelyread.touched import joined, marks_between, marks_everywhere, touches
from surelyread.worded import best_worded

MOST_EFFORT = 5000
MOST_WISHES = 40
MOST_CHANGES = 100


def with_region(regions, region):
    """The regions with one more at the end, if it is not among them."""
    return regions if region in regions else (*regions, region)


def without_region(regions, region):
    """The regions without one of them."""
    return tuple([one for one in regions if one != region])


def changed_costs(costs, rows, wishes, marks):
    """The costs for another image and wishes, with all that the change between them did not touch."""
    changed = Costs(costs.looks, rows, wishes)
    changed.known = {region: costs.known[region] for region in costs.known if not touches(marks, region)}
    changed.rests = {region: costs.rests[region] for region in costs.rests if not touches(marks, region)}
    return changed


class Reader:
    """A grammar, an image, wishes, and the changes that can be taken back.

    past has the image and the wishes ahead of each of these changes. marks are the pixels
    that changes touched since the last call of read.
    """

    def __init__(self, grammar, image):
        self.parts = parse_grammar(grammar)
        self.rows = parse_image(image)
        if effort(self.parts, len(self.rows[0]), len(self.rows)) > MOST_EFFORT:
            raise TooLarge("page")
        self.page = page_of(self.parts, self.rows)
        self.wished = ((), ())
        self.past = []
        self.costs = Costs(Looks(self.parts), self.rows, self.wished)
        # Nothing counts as read at first, as if a change had touched it all.
        self.marks = marks_everywhere(self.rows)

    def patch(self, x, y, text):
        """Puts the image of a text into the image."""
        self.change(patched(self.rows, x, y, parse_image(text)), self.wished)

    def fix(self, region):
        """Fixes a region of a plain part or a shape."""
        self.check_wish(region)
        if is_strip(self.parts[region[0]]):
            raise BadRegion()
        self.check_room(region)
        fixed, forbidden = self.wished
        self.change(self.rows, (with_region(fixed, region), without_region(forbidden, region)))

    def forbid(self, region):
        """Forbids a region."""
        self.check_wish(region)
        self.check_room(region)
        fixed, forbidden = self.wished
        self.change(self.rows, (without_region(fixed, region), with_region(forbidden, region)))

    def free(self, region):
        """Makes a region neither fixed nor forbidden."""
        self.check_wish(region)
        fixed, forbidden = self.wished
        self.change(self.rows, (without_region(fixed, region), without_region(forbidden, region)))

    def undo(self):
        """Takes back the last change; whether there is one."""
        if not self.past:
            return False
        rows, wishes = self.past.pop()
        self.become(rows, wishes)
        return True

    def check_region(self, region):
        """Refuses what is no region of a part from column 0 and row 0 on."""
        part, x, y, width, height = region
        if not 0 <= part < len(self.parts) or x < 0 or y < 0 or width < 1 or height < 1:
            raise BadRegion()

    def check_wish(self, region):
        """Refuses what is no wish region."""
        self.check_region(region)
        if not inside(region, self.page):
            raise BadRegion()

    def check_room(self, region):
        """Refuses a region for which there is no room among the wishes."""
        fixed, forbidden = self.wished
        if region not in fixed and region not in forbidden and len(fixed) + len(forbidden) >= MOST_WISHES:
            raise TooMany()

    def change(self, rows, wishes):
        """Makes a change to an image and wishes."""
        self.past.append((self.rows, self.wished))
        if len(self.past) > MOST_CHANGES:
            self.past.pop(0)
        self.become(rows, wishes)

    def become(self, rows, wishes):
        """Takes an image and wishes instead of the present ones."""
        marks = marks_between(self.rows, self.wished, rows, wishes)
        self.marks = joined(self.marks, marks)
        self.costs = changed_costs(self.costs, rows, wishes, marks)
        self.rows = rows
        self.wished = wishes

    def image(self):
        """The normal text of the image."""
        return image_text(self.rows)

    def wishes(self):
        """The fixed and the forbidden regions."""
        return self.wished

    def read(self):
        """(cost, integers of the best reading, regions to be looked at anew, their looks)."""
        anew = [region for region in needed_by(self.costs.looks, self.page) if touches(self.marks, region)]
        looks = sum([self.costs.looks.count_of(region) for region in anew])
        self.marks = [0 for _ in self.rows]
        least = self.costs.least(self.page)
        integers = None if least is None else to_integers(self.costs.reading(self.page))
        return least, integers, len(anew), looks

    def readings(self, count):
        """The costs and the integers of the first readings."""
        found = first_readings(self.parts, self.page, self.rows, self.wished, count)
        return [(cost, to_integers(reading)) for cost, reading in found]

    def margin(self, region):
        """The margin of a region, as a tuple; () if there is no allowed reading."""
        self.check_region(region)
        return margin(self.parts, self.page, self.rows, self.wished, region)

    def least_with(self, region):
        """The least cost of the allowed readings that have a region, or None."""
        self.check_region(region)
        return least_with(self.parts, self.page, self.rows, self.wished, region)

    def sure(self, most):
        """The leaves of the best reading that are sure within most, or None."""
        return sure(self.parts, self.page, self.rows, self.wished, most)

    def margins(self):
        """The leaves of the best reading with their margins, or None."""
        return margins_by(self.costs, self.page)

    def bounds(self):
        """All bounds of the page."""
        return all_bounds(self.parts, self.page, self.rows, self.wished)

    def certifies(self, bounds, cost):
        """Whether the bounds certify that nothing costs less, or for None that there is nothing."""
        return certifies(self.parts, self.page, self.rows, self.wished, bounds, cost)

    def how_many(self):
        """The number of the allowed readings."""
        return how_many(self.parts, self.page, self.wished)

    def cost_counts(self, most):
        """How many allowed readings cost 0, 1 and so on, up to the greatest cost."""
        return cost_counts(self.parts, self.page, self.rows, self.wished, most)

    def place_of(self, integers):
        """The place of the reading that has the integers."""
        reading = from_integers(self.parts, self.page, integers)
        return place_of(self.parts, self.page, self.wished, reading)

    def reading_at(self, place):
        """The integers of the reading of a place."""
        return to_integers(reading_at(self.parts, self.page, self.wished, place))

    def worded(self, words):
        """The cost and the integers of the best worded reading, or None."""
        found = best_worded(self.parts, self.page, self.rows, self.wished, words)
        return None if found is None else (found[0], to_integers(found[1]))
