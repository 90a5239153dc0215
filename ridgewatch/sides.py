"""Sides (a, b, c), the spots (x, y) for which a x + b y is c or more, and forms, the convex lots that they cut out.

A form is (), (spot,), (one, other) for a stretch, or the corners against the clock, the least first, none straight on.
"""

from ridgewatch.fractions import NOUGHT, added, compared, divided, lessened, multiplied
from ridgewatch.rooms import area, home, wall_ends
from ridgewatch.spots import is_between, side_of, spot_between


def lead_of(side, spot):
    """By how much a x + b y is more than c at the spot."""
    a, b, c = side
    return lessened(added(multiplied(a, spot[0]), multiplied(b, spot[1])), c)


def is_on(side, spot):
    """Whether the spot is in the side, its border too."""
    return compared(lead_of(side, spot), NOUGHT) >= 0


def inner_side(room, i):
    """The side of wall i on which the room lies near the wall."""
    (x, y), (u, v) = wall_ends(room, i)
    a, b = lessened(y, v), lessened(u, x)
    return (a, b, lead_of((a, b, NOUGHT), (x, y)))


def inner_sides(room):
    """The tuple of the inner sides of all walls."""
    return tuple([inner_side(room, i) for i in range(len(room))])


def clipped(form, side):
    """The form of what of a form is on the side."""
    found = []
    for k in range(len(form)):
        spot, after = form[k], form[k + 1 - len(form)]
        lead, lead_after = lead_of(side, spot), lead_of(side, after)
        if compared(lead, NOUGHT) >= 0:
            found.append(spot)
        if compared(lead, NOUGHT) * compared(lead_after, NOUGHT) < 0:
            border = spot_between(spot, after, divided(lead, lessened(lead, lead_after)))
            # A stretch goes there and back over the border.
            if border not in found:
                found.append(border)
    return home(tuple(found))


def lies_in_form(form, spot):
    """Whether the spot is in the form, its border too."""
    if len(form) < 3:
        return form != () and is_between(form[0], form[-1], spot)
    for k in range(len(form)):
        if side_of(form[k - 1], form[k], spot) < 0:
            return False
    return True


def form_area(form):
    """The area of the form."""
    # The sum of what a room's area is told by comes to 0 for less than three corners.
    return area(form)
