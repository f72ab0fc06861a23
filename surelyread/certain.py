"""What is sure: by how much the best reading would cost more without a region."""

from surelyread.best import Costs
from surelyread.errors import TooMany
from surelyread.needs import Looks
from surelyread.readings import leaves

MOST_LEAVES = 40

# More than any cost: with so much taken off the cost of a region, just the readings that
# have this region cost less than 0.
BONUS = 1000000000000000000


def inside(region, other):
    """Whether the rectangle of a region lies in that of the other one."""
    return (other[1] <= region[1] and region[1] + region[3] <= other[1] + other[3]
            and other[2] <= region[2] and region[2] + region[4] <= other[2] + other[4])


def costs_with(costs, asked, least):
    """The costs with another least one of the region asked."""
    # Nothing depends on the region asked but what a reading can have around it.
    known = {region: costs.known[region] for region in costs.known if not inside(asked, region)}
    known[asked] = least
    changed = Costs(costs.looks, costs.rows, costs.wished)
    changed.known = known
    return changed


def margin_by(costs, region, asked):
    """The margin of the region asked, for a region that has an allowed reading."""
    without = costs_with(costs, asked, None).least(region)
    return None if without is None else without - costs.least(region)


def margin(parts, region, rows, wishes, asked):
    """(), or a tuple of one: the margin of the region asked, None if it has no end."""
    costs = Costs(Looks(parts), rows, wishes)
    if costs.least(region) is None:
        return ()
    return (margin_by(costs, region, asked),)


def least_with(parts, region, rows, wishes, asked):
    """The least cost of the allowed readings that have the region asked, or None."""
    costs = Costs(Looks(parts), rows, wishes)
    least = costs.least(asked) if inside(asked, region) else None
    if least is None:
        return None
    # A reading has a region once at most, so the bonus comes off once at most.
    told = costs_with(costs, asked, least - BONUS).least(region)
    return told + BONUS if told is not None and told < 0 else None


def margins_by(costs, region):
    """Pairs of a leaf of the best reading and its margin, or None if there is no reading."""
    if costs.least(region) is None:
        return None
    found = leaves(costs.parts, region, costs.reading(region))
    if len(found) > MOST_LEAVES:
        raise TooMany()
    return [(leaf, margin_by(costs, region, leaf)) for leaf in found]


def sure(parts, region, rows, wishes, most):
    """The leaves of the best reading that are sure within most, or None if there is none."""
    told = margins_by(Costs(Looks(parts), rows, wishes), region)
    if told is None:
        return None
    return [leaf for leaf, least in told if least is None or least > most]
