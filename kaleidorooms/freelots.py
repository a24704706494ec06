"""Free lots: arrows of which none lies under another one (point 58)."""

from kaleidorooms.arrows import need_ending, up_arrows
from kaleidorooms.errors import TooMany
from kaleidorooms.mirrors import lot_of

MOST_LOTS = 2000


def lies_under(arrow, other):
    """Whether none of an arrow's integers is greater than another one's."""
    return all([own <= its for own, its in zip(arrow, other)])


def is_free(hall, lot):
    """Whether none of the arrows of a lot lies under another one."""
    need_ending(hall)
    inside = list(lot_of(hall, up_arrows(hall), lot))
    return not any([lies_under(arrow, other) for arrow in inside for other in inside if arrow != other])


def free_levels(hall):
    """The ascending lists of the free lots of no arrow, one, two and so on, TooMany if they are too many."""
    ups = list(up_arrows(hall))
    levels = []
    many = 0
    level = [((), ups)]
    # With each lot those arrows are kept that stand behind its last one, and make it another free lot.
    while level:
        many = many + len(level)
        if many > MOST_LOTS:
            raise TooMany(MOST_LOTS)
        levels.append(sorted([lot for lot, _ in level]))
        level = [(lot + (arrow,), behind_arrow(more, arrow)) for lot, more in level for arrow in more]
    return levels


def behind_arrow(ups, arrow):
    """Those of some arrows, in their order, that stand behind one of them, and that it does not lie under.

    None of these lies under it: they are as high, or higher.
    """
    return [other for other in ups[ups.index(arrow) + 1:] if not lies_under(arrow, other)]


def free_lots(hall):
    """All free lots, those of fewer arrows ahead, those of as many ascending."""
    need_ending(hall)
    return [lot for lots in free_levels(hall) for lot in lots]


def free_by_size(hall):
    """How many free lots have no arrow, one, two and so on."""
    need_ending(hall)
    return tuple([len(lots) for lots in free_levels(hall)])
