"""Opening a secret whose shares are not promised (points 61 to 63)."""

from itertools import combinations

from lotshown.errors import Refused
from lotshown.fields import through, value_at, vanishing

_MOST_POINTS = 12


def agreeing(q, polynomial, points):
    """Return the number of the points with which the polynomial agrees."""
    return len(points) - len(_false_indices(q, polynomial, points))


def _false_indices(q, polynomial, points):
    return tuple([index for index, value in points if value_at(q, polynomial, index) != value])


def best_readings(q, threshold, points):
    """Return the ascending list of the readings that agree with the most points."""
    if len(points) < threshold:
        raise Refused("there are fewer points than the threshold")
    most = 0
    best = []
    # Each best reading goes through as many of the points as its threshold, or more.
    for chosen in combinations(list(points), threshold):
        reading = through(q, chosen)
        agreed = agreeing(q, reading, points)
        if agreed > most:
            most = agreed
            best = []
        if agreed == most:
            best.append(reading)
        if _is_only(threshold, points, most):
            return best
    return sorted(set(best))


def _is_only(threshold, points, agreed):
    """Tell whether a reading that agrees with so many points is the only best one by this number."""
    return 2 * agreed > len(points) + threshold - 1


def only_reading(q, threshold, points):
    """Return the only best reading and the indices of its false points, or None."""
    reading = best_readings(q, threshold, points)[0]
    false = _false_indices(q, reading, points)
    if not _is_only(threshold, points, len(points) - len(false)):
        return None
    return (reading, false)


def two_readings(q, threshold, m, changes):
    """Return m points, and two polynomials with different secrets from which they come by so many changes each."""
    if changes < 1 or m < threshold or m > _MOST_POINTS or q <= m:
        raise Refused("there are no such points")
    if m >= threshold + 2 * changes:
        raise Refused("with so many points there is only one reading")
    # Both polynomials have the value 0 at the first indices, and at no other one, 0 among them.
    one = (0,) * threshold
    other = vanishing(q, [(index, 0) for index in range(1, threshold)])
    behind = threshold + changes
    points = [(index, value_at(q, other, index) if index < behind else 0) for index in range(1, m + 1)]
    return (tuple(points), one, other)
