"""Parts of graphs for the tests of why: reasons, and what is none.

A part is kept as (n, pairs, chosen): chosen are those of the pairs that are handed in at part.
"""

from itertools import combinations, combinations_with_replacement

from graphs import K33, complete, moved, named_variants, without

K5 = complete(5)
PRISM = [(0, 1), (1, 2), (2, 0), (3, 4), (4, 5), (5, 3), (0, 3), (1, 4), (2, 5)]


def along(ways, counts, point):
    """The edges of ways from a to b over so many points each, which are numbered from `point` on."""
    pairs = []
    for (a, b), count in zip(ways, counts):
        stops = [a] + list(range(point, point + count)) + [b]
        pairs += zip(stops, stops[1:])
        point += count
    return pairs


def points_of(pairs):
    return max([point for pair in pairs for point in pair], default=-1) + 1


def part_variants(n, pairs, chosen):
    """The same part with other numbers, orders and directions, as (n, edges, part)."""
    for turn, (names, edges) in enumerate(named_variants(n, pairs)):
        wanted = {frozenset((names[a], names[b])) for a, b in chosen}
        part = [edge for edge in range(len(pairs)) if frozenset(edges[2 * edge:2 * edge + 2]) in wanted]
        orders = [part, part[::-1], part[turn:] + part[:turn], part[::2] + part[1::2]]
        yield n, edges, orders[turn % 4]
        yield n, edges, orders[(turn + 1) % 4]


def reasons():
    """Reasons that are the whole graph, as (n, pairs), with at most 40 edges."""
    for core in (K5, K33):
        lines = len(core)
        start = points_of(core)
        counts = [[0] * lines, [1] * lines, [0] * (lines - 1) + [1], [3] + [0] * (lines - 1),
                  [place % 2 for place in range(lines)], [place % 4 for place in range(lines)],
                  [40 - lines] + [0] * (lines - 1), [0] * (lines - 1) + [40 - lines]]
        counts.append([(40 - lines) // lines + (place < (40 - lines) % lines) for place in range(lines)])
        counts += [[0] * place + [1] + [0] * (lines - 1 - place) for place in range(lines)]
        for count in counts:
            pairs = along(core, count, start)
            yield points_of(pairs), pairs


def reasons_in_larger_graphs():
    """Reasons beside other edges, as (n, pairs, chosen)."""
    yield 6, complete(6), K5
    yield 6, complete(6), K33
    yield 6, complete(6), [(a, b) for a in (0, 2, 4) for b in (1, 3, 5)]
    yield 6, complete(6), without(K5, (1, 3)) + [(1, 5), (3, 5)]
    yield 7, complete(7), moved(K33, 1)
    yield 8, complete(8), moved(K5, 3)
    for n, pairs in reasons():
        if len(pairs) < 40:
            yield n + 1, pairs + [(0, n)], pairs
            yield n + 2, [(n, n + 1)] + pairs, pairs
        if len(pairs) < 37:
            yield n + 3, pairs[:4] + [(n, n + 1), (n + 1, n + 2), (n + 2, n)] + pairs[4:], pairs
    twice = K5 + moved(K5, 5)
    yield 10, twice, K5
    yield 10, twice, moved(K5, 5)
    yield 256, moved(twice, 120) + [(0, 255), (255, 122)], moved(K5, 125)
    yield 256, moved(K33, 250) + [(249 - point, 250) for point in range(31)], moved(K33, 250)


def renamed(pairs):
    return [tuple(sorted(pair)) for pair in pairs]


def graphs_that_are_no_reason():
    """Whole graphs of at most 40 edges that are no reason, as (n, pairs)."""
    for pairs in (complete(2), complete(3), complete(4), complete(6), PRISM, renamed(PRISM)):
        yield points_of(pairs), pairs
    for n, pairs in reasons():
        if len(pairs) < 20:
            yield from ((n, without(pairs, pair)) for pair in pairs)
        if len(pairs) < 40:
            # A dead end at each point in turn, so at ends of ways and between them.
            yield from ((n + 1, pairs + [(point, n)]) for point in range(n))
            yield n + 2, pairs + [(n, n + 1)]
        if len(pairs) < 37:
            yield n + 3, pairs + [(n, n + 1), (n + 1, n + 2), (n + 2, n)]
    for core in (K5, K33):
        for other in (K5, K33, complete(4)):
            start = points_of(core)
            yield start + points_of(other), core + moved(other, start)
        # Two that have one point in common.
        yield 2 * points_of(core) - 1, core + moved(core, points_of(core) - 1)
    yield 6, K33 + [(0, 1)]
    yield 6, K33 + [(4, 5)]
    yield 7, along(K5, [2] + [0] * 9, 5) + [(2, 5)]
    # A way in two pieces, each with a dead end.
    yield 8, along(K5[1:], [0] * 9, 5) + [(0, 5), (1, 6)]
    for count in (5, 6, 7, 40):
        yield count + 1, [(0, point) for point in range(1, count + 1)]
        ring = [(point, (point + 1) % count) for point in range(count)]
        yield count, ring
        if count < 20:
            yield count + 1, ring + [(count, point) for point in range(count)]
    for left, right in ((1, 5), (2, 4), (2, 3), (3, 4), (4, 4)):
        yield left + right, [(a, b) for a in range(left) for b in range(left, left + right)]
    yield 6, [pair for pair in complete(6) if sum(pair) != 5]


def points_with_ways(count, degree):
    """All ways to join `count` points so that `degree` ends of ways are at each, as lists of (a, b), a <= b."""
    def rest(point, left):
        if point == count:
            yield []
            return
        for loops in range(left[point] // 2 + 1):
            for others in combinations_with_replacement(range(point + 1, count), left[point] - 2 * loops):
                after = [left[other] - others.count(other) for other in range(count)]
                if min(after) >= 0:
                    for more in rest(point + 1, after):
                        yield [(point, point)] * loops + [(point, other) for other in others] + more

    yield from rest(0, [degree] * count)


def simple_edges(ways, start):
    """Edges of such ways, divided so often that no two edges have the same two points."""
    counts = []
    for place, (a, b) in enumerate(ways):
        if a == b:
            counts.append(2)
        else:
            counts.append(1 if (a, b) in ways[:place] else 0)
    return along(ways, counts, start)


def is_reason_by_definition(pairs):
    """Whether the pairs, each told once, are a reason, by choosing its points and trying ways between them."""
    points = sorted({point for pair in pairs for point in pair})
    for five in combinations(points, 5):
        if can_be_ways(list(combinations(five, 2)), five, pairs):
            return True
    for six in combinations(points, 6):
        for more in combinations(six[1:], 2):
            left = (six[0],) + more
            right = [point for point in six if point not in left]
            if can_be_ways([(a, b) for a in left for b in right], six, pairs):
                return True
    return False


def can_be_ways(lines, ends, pairs):
    """Whether the pairs are just the edges of ways for these lines."""
    if len(lines) == 0:
        return len(pairs) == 0
    if len(pairs) < len(lines):
        return False
    (start, goal), rest = lines[0], lines[1:]
    for inner, left in ways_between(start, goal, ends, pairs):
        # A point that was gone through is shut to the other ways, like the ends.
        if can_be_ways(rest, tuple(ends) + inner, left):
            return True
    return False


def ways_between(point, goal, shut, pairs):
    """The ways from a point to the goal that go through no shut point, as (points between, edges left over)."""
    for pair in pairs:
        if point in pair:
            other = pair[1] if pair[0] == point else pair[0]
            left = without(pairs, pair)
            if other == goal:
                yield (), left
            elif other not in shut:
                for inner, more in ways_between(other, goal, tuple(shut) + (other,), left):
                    yield (other,) + inner, more
