"""The same answers found in another, slower way, with Python's fractions: the laps of the map, k times made."""

from fractions import Fraction


def image(points, x):
    below = x.numerator // x.denominator
    if below == len(points) - 1:
        return Fraction(points[below])
    return points[below] + (x - below) * (points[below + 1] - points[below])


def again(points, x, k):
    for _ in range(k):
        x = image(points, x)
    return x


def comes_back_in(points, x):
    """The fewest steps up to 6 behind which x is where it was, or 0."""
    for k in range(1, 7):
        if again(points, x, k) == x:
            return k
    return 0


def laps(points, k):
    """Corners x, y of the k times made map, straight between neighbours."""
    corners = [(Fraction(x), Fraction(x)) for x in range(len(points))]
    for _ in range(k):
        finer = [corners[0]]
        for (x0, y0), (x1, y1) in zip(corners, corners[1:]):
            levels = [Fraction(v) for v in range(len(points)) if min(y0, y1) < v < max(y0, y1)]
            for v in sorted(levels, reverse=y1 < y0):
                finer.append((x0 + (x1 - x0) * (v - y0) / (y1 - y0), v))
            finer.append((x1, y1))
        corners = [(x, image(points, y)) for x, y in finer]
    return corners


def fixed_on_lap(x0, y0, x1, y1):
    """Where the lap meets the diagonal; of a lap that lies on it more places than k has divisors."""
    if x0 == y0 and x1 == y1:
        return [x0 + (x1 - x0) * Fraction(part, 7) for part in range(8)]
    slope = (y1 - y0) / (x1 - x0)
    if slope == 1:
        return []
    x = (y0 - slope * x0) / (1 - slope)
    return [x] if x0 <= x <= x1 else []


def places_back(points, k):
    """Places that come back in k steps, all of them if there are not endlessly many."""
    corners = laps(points, k)
    found = {}
    for (x0, y0), (x1, y1) in zip(corners, corners[1:]):
        for x in fixed_on_lap(x0, y0, x1, y1):
            if comes_back_in(points, x) == k:
                found[x] = True
    return sorted(found)


def endless(points, k):
    """Whether a lap lies on the diagonal of which all but some places come back in k steps and no sooner."""
    corners = laps(points, k)
    for (x0, y0), (x1, y1) in zip(corners, corners[1:]):
        if x0 == y0 and x1 == y1 and comes_back_in(points, x0 + (x1 - x0) * Fraction(1, 7)) == k:
            return True
    return False


def rounds(points, k):
    """All rounds of k steps in order, or None if there are endlessly many."""
    if endless(points, k):
        return None
    found = []
    for x in places_back(points, k):
        places = [again(points, x, step) for step in range(k)]
        if x == min(places):
            found.append(places)
    return found


def ranks(places):
    return [sorted(places).index(x) for x in places]


def has(points, k):
    return 1 if places_back(points, k) else 0


def comes(points, x):
    met = []
    while x not in met:
        met.append(x)
        x = image(points, x)
    return [met.index(x), len(met) - met.index(x)]


def covers(points, i, j):
    low, high = sorted([points[i], points[i + 1]])
    return 1 if j in range(low, high) else 0


def order_up_to(most):
    """The numbers up to most, each ahead of those that it brings."""
    powers = [2 ** exponent for exponent in range(most.bit_length()) if 2 ** exponent <= most]
    order = [power * odd for power in powers for odd in range(3, most + 1, 2) if power * odd <= most]
    return order + powers[::-1]


def told(x):
    return [x.numerator, x.denominator]
