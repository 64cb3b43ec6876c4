"""Distances on a road network. An undefined distance is None."""


def nearer(one, other):
    """Give the smaller of two distances; any distance is smaller than an undefined one."""
    if one is None:
        return other
    if other is None:
        return one
    return min(one, other)


def joined(one, other):
    """Give the distance along two routes, one behind the other."""
    if one is None or other is None:
        return None
    return one + other


def with_road(times, start, end, time):
    """Give the travel times as they are with this road; those handed in stay as they are."""
    changed = [list(row) for row in times]
    changed[start][end] = time
    changed[end][start] = time
    return changed


def road_count(times):
    """Give the number of roads."""
    roads = 0
    for start in range(len(times)):
        for end in range(start):
            if times[start][end] > 0:
                roads += 1
    return roads


def direct_distance(times, start, end):
    """Give the distance of two places by at most one road."""
    if start == end:
        return 0
    # A road takes at least 1, so that 0 is free to say that there is none.
    if times[start][end] == 0:
        return None
    return times[start][end]


def shortest_distances(times):
    """Give a row for each place with its distances to all places."""
    distances = []
    for start in range(len(times)):
        distances.append([direct_distance(times, start, end) for end in range(len(times))])
    # The middle must be the outermost loop: each round allows routes through one more place.
    for middle in range(len(times)):
        for start in range(len(times)):
            for end in range(len(times)):
                detour = joined(distances[start][middle], distances[middle][end])
                distances[start][end] = nearer(distances[start][end], detour)
    return distances


def is_connected(distances):
    """Tell whether all distances are defined."""
    for row in distances:
        if None in row:
            return False
    return True
