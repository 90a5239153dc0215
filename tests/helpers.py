"""What the tests have in common."""

import random
from fractions import Fraction
from itertools import combinations

NONE_AT_ALL = [
    None, True, False, 0, 1, -3, 10 ** 59, "", "1/2", "(1, 2)", (), [], {}, (1,), (1, 2, 3), [1, 2], (0, 0), (1, 0),
    (1, -2), (2, 4), (0, 2), (0, -1), (True, 1), (1, True), (False, 1), (None, 1), (1, None), ("1", 2), (1, "2"),
    ((1,), 2), ([1], 2), (1, (2,)), {1: 2}, {"u": 1, "e": 2}, ((1, 2), (1, 2), (1, 2)), [[1, 2], [1, 2]],
    ((((((1, 2),),),),),), "\t\n ~", [None, [True, {"a": (1, [2])}]],
]
"""Values that are no fractions, no spots, no ridges and no texts of any form."""


def nested(depth):
    """Tuples within one another, so deep."""
    value = (1, 2)
    for _ in range(depth):
        value = (value, value[0])
    return value


def frac(text):
    """The fraction that a text like -3/2 or 4 tells."""
    u, _, e = text.partition("/")
    return (int(u), int(e or "1"))


def spot(text):
    """The spot that a text like 1/2,3 tells."""
    x, y = text.split(",")
    return (frac(x), frac(y))


def spots(text):
    """The tuple of the spots with blanks between."""
    return tuple(spot(word) for word in text.split())


def places(text):
    """The tuple of the fractions with blanks between."""
    return tuple(frac(word) for word in text.split())


def grounds(text):
    """Ground spots like 0:1/2, with blanks between."""
    return tuple((int(word.split(":")[0]), frac(word.split(":")[1])) for word in text.split())


def parts(text):
    """Parts of slopes, or of walls, like 0:1/4:1/2, with blanks between."""
    return tuple((int(word.split(":")[0]),) + places(" ".join(word.split(":")[1:])) for word in text.split())


def dice(seed):
    """Numbers that look random and are the same in each run."""
    return random.Random(seed)


def some_fraction(rng, low=-12, high=12, most=6):
    """A fraction in lowest terms."""
    value = Fraction(rng.randint(low * most, high * most), rng.randint(1, most))
    return (value.numerator, value.denominator)


def some_ridge(rng, corners, high=8, most=3):
    """A ridge with so many corners."""
    x = Fraction(rng.randint(-5, 5))
    found = []
    for _ in range(corners):
        y = Fraction(rng.randint(0, high * most), rng.randint(1, most))
        found.append(((x.numerator, x.denominator), (y.numerator, y.denominator)))
        x += Fraction(rng.randint(1, 9), rng.randint(1, most))
    return tuple(found)


def exact(pair):
    """The number of Python's own that a fraction stands for."""
    return Fraction(pair[0], pair[1])


def told(value):
    """The fraction that a number of Python's own stands for."""
    return (value.numerator, value.denominator)


def numbers(corners):
    """The spots by Python's own numbers."""
    return [(exact(x), exact(y)) for x, y in corners]


def some_teeth(rng, corners):
    """A ridge of steep valleys, few of which one drone sees."""
    found = []
    for k in range(corners):
        x = 2 * k - 9 + rng.randint(0, 1)
        y = rng.choice((0, 3, 17)) if k % 3 == 1 else rng.choice((18, 18, 19))
        found.append(((x, 1), (y, 1)))
    return tuple(found)


def some_case(rng, corners):
    """A ridge and a height above it, now and then just above, or far above."""
    if rng.random() < 0.4:
        ridge = some_teeth(rng, corners)
    else:
        ridge = some_ridge(rng, corners, high=rng.choice((3, 8, 40)), most=rng.choice((1, 1, 3)))
    top = max(exact(y) for _, y in ridge)
    return ridge, told(top + rng.choice((Fraction(1, 50), Fraction(rng.randint(1, 12), rng.randint(1, 4)), 90)))


def side_by_words(ridge, h, i, t, sign):
    """The end that 4.1 tells, to the left with -1, and the c of 4.2 that stands there."""
    points = numbers(ridge)
    (p, q), (r, s) = points[i], points[i + 1]
    x, y = p + t * (r - p), q + t * (s - q)
    lines = [((v - y) / abs(u - x), -abs(u - x), k) for k, (u, v) in enumerate(points) if sign * (u - x) > 0 and v > y]
    if (s - q) * sign > 0:
        lines.append((abs((s - q) / (r - p)), 0, i if sign < 0 else i + 1))
    end = points[0][0] if sign < 0 else points[-1][0]
    if not lines:
        return end, None
    steep, _, k = max(lines)
    place = x + sign * (h - y) / steep
    return (end, None) if sign * (place - end) > 0 else (place, k)


def ends_by_words(ridge, h, i, t):
    """L and R of 4.1."""
    return side_by_words(ridge, h, i, t, -1)[0], side_by_words(ridge, h, i, t, 1)[0]


def drone_shares(ridge, h, i, drones, more=()):
    """0, 1, and all shares of slope i at which what one of the drones sees may begin or end, ascending."""
    points = numbers(ridge)
    (p, q), (r, s) = points[i], points[i + 1]
    found = {Fraction(0), Fraction(1)} | set(more)
    for x in drones:
        for u, v in points:
            # Where the line from the drone through this corner crosses the slope's line.
            turn = (r - p) * (h - v) - (s - q) * (x - u)
            if turn:
                t = ((u - p) * (h - v) - (v - q) * (x - u)) / turn
                if 0 < t < 1:
                    found.add(t)
    return sorted(found)


def pieces_by_words(ridge, h, i, drones, low=Fraction(0), high=Fraction(1)):
    """The triples (a, b, lot) side by side on slope i from low to high, lot the numbers of the drones that see all."""
    shares = [t for t in drone_shares(ridge, h, i, drones, (low, high)) if low <= t <= high]
    found = []
    for a, b in zip(shares, shares[1:]):
        left, right = ends_by_words(ridge, h, i, (a + b) / 2)
        lot = tuple(k for k, x in enumerate(drones) if left <= x <= right)
        if found and found[-1][2] == lot:
            found[-1] = (found[-1][0], b, lot)
        else:
            found.append((a, b, lot))
    return found


def dark_by_words(ridge, h, drones, parts):
    """What 6.1 tells of dark_within, ascending, each once."""
    found = set()
    for i, a, b in parts:
        for t, u, lot in pieces_by_words(ridge, exact(h), i, [exact(x) for x in drones], exact(a), exact(b)):
            if not lot:
                found.add((i, t, u))
    return tuple((i, told(t), told(u)) for i, t, u in sorted(found))


def waiting_by_words(ridge, h, some, x):
    """For each part with spots not seen yet (i, a, c, R), as 5.1 tells; x None for all."""
    found = []
    for i, a, b in some:
        a, b, c = exact(a), exact(b), None
        if x is None:
            c = b
        else:
            shares = [t for t in drone_shares(ridge, exact(h), i, [exact(x)], (a, b)) if a <= t <= b]
            for t, u in zip(shares, shares[1:]):
                if ends_by_words(ridge, exact(h), i, (t + u) / 2)[0] > exact(x):
                    c = u
        if c is not None:
            found.append((i, a, c, ends_by_words(ridge, exact(h), i, c)[1]))
    return found


def drones_by_words(ridge, h, some):
    """The drones that 5.2 tells."""
    found, x = [], None
    while True:
        ends = [end for _, _, _, end in waiting_by_words(ridge, h, some, x)]
        if not ends:
            return tuple(found)
        x = told(min(ends))
        found.append(x)


def paper_by_words(ridge, h, some):
    """The ground spots that 5.2 tells."""
    drones = drones_by_words(ridge, h, some)
    found, later = [], None
    for k in reversed(range(len(drones))):
        ahead = drones[k - 1] if k else None
        i, a, c, _ = [row for row in waiting_by_words(ridge, h, some, ahead) if row[3] == exact(drones[k])][0]
        n = 2
        while later is not None and ends_by_words(ridge, exact(h), i, c - (c - a) / n)[1] >= later:
            n *= 2
        t = c - (c - a) / n
        found.insert(0, (i, told(t)))
        later = ends_by_words(ridge, exact(h), i, t)[0]
    return tuple(found)


def whole(ridge):
    """The parts of all slopes."""
    return tuple((i, (0, 1), (1, 1)) for i in range(len(ridge) - 1))


def some_parts(rng, ridge, many):
    """At most so many parts, ascending, some of which touch or lie over one another."""
    found = set()
    for _ in range(many):
        most = rng.choice((2, 4, 5))
        a, b = sorted(rng.sample(range(most + 1), 2))
        found.add((rng.randrange(len(ridge) - 1), Fraction(a, most), Fraction(b, most)))
    return tuple((i, told(a), told(b)) for i, a, b in sorted(found))


def some_drones(rng, ridge, many, more=()):
    """Unlike places of the line, ascending: corners' places, evenly set ones, and more."""
    start, end = exact(ridge[0][0]), exact(ridge[-1][0])
    places = [exact(x) for x, _ in ridge] + [start + (end - start) * Fraction(k, 12) for k in range(13)]
    places = sorted(set(places + [exact(x) for x in more]))
    return tuple(told(x) for x in sorted(rng.sample(places, min(many, len(places)))))


def turn(a, b, c):
    """What is above 0 if the way from a over b to c, in Python's own numbers, turns to the left."""
    return (b[0] - a[0]) * (c[1] - a[1]) - (b[1] - a[1]) * (c[0] - a[0])


def lies_on(a, b, p):
    """Whether p lies on the stretch from a to b."""
    return turn(a, b, p) == 0 and min(a[0], b[0]) <= p[0] <= max(a[0], b[0]) and min(a[1], b[1]) <= p[1] <= max(a[1], b[1])


def rows_of(points):
    """The walls, pairs of corners."""
    return list(zip(points, points[1:] + points[:1]))


def where_by_words(points, p):
    """What 7.2 tells of place_in: by how often the walls go round p."""
    for k, corner in enumerate(points):
        if corner == p:
            return ("corner", k)
    for k, (a, b) in enumerate(rows_of(points)):
        if lies_on(a, b, p):
            return ("wall", k)
    rounds = 0
    for a, b in rows_of(points):
        if a[1] <= p[1] < b[1] and turn(a, b, p) > 0:
            rounds += 1
        elif b[1] <= p[1] < a[1] and turn(a, b, p) < 0:
            rounds -= 1
    return ("inside",) if rounds else ("outside",)


def is_in_by_words(points, p):
    """Whether p is not outside."""
    return where_by_words(points, p) != ("outside",)


def crossing_shares(p, q, lines):
    """The shares from 0 to 1 at which lines through pairs of points cross the way from p to q, 0 and 1 too."""
    found = {Fraction(0), Fraction(1)}
    for a, b in lines:
        across = (q[0] - p[0]) * (b[1] - a[1]) - (q[1] - p[1]) * (b[0] - a[0])
        if across:
            t = ((a[0] - p[0]) * (b[1] - a[1]) - (a[1] - p[1]) * (b[0] - a[0])) / across
            if 0 < t < 1:
                found.add(t)
    return sorted(found)


def point_between(p, q, t):
    """The point t of the way from p to q."""
    return (p[0] + t * (q[0] - p[0]), p[1] + t * (q[1] - p[1]))


def sees_by_words(points, p, q):
    """Whether the way from p to q is in the room: looked at between all lines of walls."""
    shares = crossing_shares(p, q, rows_of(points))
    return all(is_in_by_words(points, point_between(p, q, (t + u) / 2)) for t, u in zip(shares, shares[1:]))


def is_room_by_words(points):
    """Whether the points, in Python's own numbers, are a room."""
    many = len(points)
    if many < 3 or len(set(points)) < many:
        return False
    for k in range(many):
        if turn(points[k - 1], points[k], points[k + 1 - many]) == 0:
            return False
    walls = rows_of(points)
    for i in range(many):
        for j in range(i + 2, many - (i == 0)):
            if crosses(walls[i], walls[j]):
                return False
    return sum(a[0] * b[1] - b[0] * a[1] for a, b in walls) > 0


def crosses(one, other):
    """Whether two stretches have a point in common."""
    (a, b), (c, d) = one, other
    if lies_on(a, b, c) or lies_on(a, b, d) or lies_on(c, d, a) or lies_on(c, d, b):
        return True
    return (turn(a, b, c) > 0) != (turn(a, b, d) > 0) and (turn(c, d, a) > 0) != (turn(c, d, b) > 0)


def is_inner_by_words(points, i, j):
    """Whether the way between two corners is in the room and meets walls at its ends alone."""
    many = len(points)
    if (j - i) % many in (1, many - 1):
        return False
    one, other = points[i], points[j]
    for a, b in rows_of(points):
        if one in (a, b) or other in (a, b):
            far = [p for p in (a, b) if p not in (one, other)]
            if any(crosses((one, other), (p, p)) for p in far):
                return False
        elif crosses((one, other), (a, b)):
            return False
    return is_in_by_words(points, point_between(one, other, Fraction(1, 2)))


def some_points(rng, corners, size=4):
    """The corners of a room, at most so many, on a small grid, so that many lie in one line."""
    grid = [(Fraction(x), Fraction(y)) for x in range(size + 1) for y in range(size + 1)]
    points = rng.sample(grid, 3)
    while not is_room_by_words(points):
        points = rng.sample(grid, 3)
    for _ in range(12 * corners):
        if len(points) == corners:
            break
        k = rng.randint(1, len(points))
        grown = points[:k] + [rng.choice(grid)] + points[k:]
        if is_room_by_words(grown):
            points = grown
    return points


def room_of(points, step=Fraction(1)):
    """The room with these corners."""
    return tuple((told(x * step), told(y * step)) for x, y in points)


def some_room(rng, corners, size=4):
    """A room with at most so many corners."""
    return room_of(some_points(rng, corners, size), rng.choice((Fraction(1), Fraction(1), Fraction(2, 3))))


def some_spots_in(rng, points):
    """Points in the room of all kinds: corners, on walls, in line with walls, inside."""
    found = list(points) + [point_between(a, b, Fraction(rng.randint(1, 3), 4)) for a, b in rows_of(points)]
    for _ in range(12):
        a, b = rng.sample(points, 2)
        found.append(point_between(a, b, Fraction(rng.randint(-3, 7), rng.choice((2, 4, 5)))))
        c = rng.choice(points)
        found.append(((a[0] + b[0] + c[0]) / 3, (a[1] + b[1] + c[1]) / 3))
    return [p for p in found if is_in_by_words(points, p)]


def spot_told(p):
    """The spot of a point in Python's own numbers."""
    return (told(p[0]), told(p[1]))


def hull(points):
    """The corners of the least convex lot with these points, against the clock from the least, none straight on."""
    points = sorted(set(points))
    if len(points) < 3:
        return points
    rows = []
    for row in (points, points[::-1]):
        found = []
        for p in row:
            while len(found) > 1 and turn(found[-2], found[-1], p) <= 0:
                found.pop()
            found.append(p)
        rows += found[:-1]
    return rows


def lead_by_words(side, p):
    """By how much p lies on the side (a, b, c)."""
    return side[0] * p[0] + side[1] * p[1] - side[2]


def clipped_by_words(corners, side):
    """What of a convex lot, told by its corners, is on the side: all that lies on it of each way between two corners."""
    found = [p for p in corners if lead_by_words(side, p) >= 0]
    for p in corners:
        for q in corners:
            lead, other = lead_by_words(side, p), lead_by_words(side, q)
            if lead > 0 > other:
                found.append(point_between(p, q, lead / (lead - other)))
    return hull(found)


def inner_by_words(points):
    """The inner sides of a room, by Python's own numbers."""
    return [(y - v, u - x, (y - v) * x + (u - x) * y) for (x, y), (u, v) in rows_of(points)]


def comb_by_words(k):
    """What 10.7 tells of comb."""
    corners = ["0,-1", f"{3 * k - 1},-1"]
    for j in reversed(range(k)):
        corners += [f"{3 * j + 1},3"] + ([f"{3 * j},0", f"{3 * j - 1},0"] if j else [])
    return spots(" ".join(corners))


def all_cuts(points):
    """All cuts, each found by what stands on the wall from the last corner to corner 0."""
    ways = {(i, j) for i, j in combinations(range(len(points)), 2) if is_inner_by_words(points, i, j)}
    ways |= {(i, i + 1) for i in range(len(points) - 1)} | {(0, len(points) - 1)}

    def between(i, j):
        if j - i == 1:
            return [()]
        return [one + other + ((i, k, j),) for k in range(i + 1, j) if (i, k) in ways and (k, j) in ways
                for one in between(i, k) for other in between(k, j)]
    return [tuple(sorted(cut)) for cut in between(0, len(points) - 1)]


def some_choice(rng, cameras, spots, share, seen=False):
    """A choice with so many of each, a camera seeing this share of the spots; with seen each spot is seen by one."""
    lots = [{j for j in range(spots) if rng.random() < share} for _ in range(cameras)]
    for j in range(spots):
        if seen and not any(j in lot for lot in lots):
            rng.choice(lots).add(j)
    return (spots, tuple(tuple(sorted(lot)) for lot in lots))


def chosen_by_words(choice, many=1):
    """The first of the tuples of cameras, the fewest first, of which each spot is seen by at least so many."""
    n, lots = choice
    for size in range(len(lots) + 1):
        for cameras in combinations(range(len(lots)), size):
            if all(sum(j in lots[c] for c in cameras) >= many for j in range(n)):
                return cameras
    return None


def hidden_by_words(choice):
    """The first of the tuples of hidden spots, the longest first."""
    n, lots = choice
    seen = [j for j in range(n) if any(j in lot for lot in lots)]
    for size in reversed(range(n + 1)):
        for some in combinations(seen, size):
            if all(sum(j in some for j in lot) <= 1 for lot in lots):
                return some


def some_graph(rng, cameras, spots):
    """A choice in which two cameras see each spot."""
    lots = [[] for _ in range(cameras)]
    for j in range(spots):
        for c in rng.sample(range(cameras), 2):
            lots[c].append(j)
    return (spots, tuple(map(tuple, lots)))


def number_of(digits):
    """The integer with these digits, however many, read part by part."""
    value = 0
    for k in range(0, len(digits), 1000):
        part = digits[k:k + 1000]
        value = value * 10 ** len(part) + int(part)
    return value
