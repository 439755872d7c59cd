"""Drawings for the tests, and what is none.

A drawing is kept as (n, pairs, rounds): rounds[point] holds the point's neighbours in the order round it.
"""

from math import atan2

from graphs import HIGHEST, K33, LOWEST, complete, flat, moved, named_variants, without

K5 = complete(5)
CUBE = [(a, b) for a, b in complete(8) if a ^ b in (1, 2, 4)]
CUBE_PLACES = [(0, 0), (9, 0), (0, 9), (9, 9), (3, 3), (6, 3), (3, 6), (6, 6)]
OCTAHEDRON = [pair for pair in complete(6) if sum(pair) != 5]
OCTAHEDRON_PLACES = [(0, 0), (12, 0), (6, 12), (6, 3), (4, 5), (8, 5)]
K4_PLACES = [(0, 0), (4, 0), (2, 4), (2, 1)]


def neighbours(pairs, point):
    return [b if a == point else a for a, b in pairs if point in (a, b)]


def in_order(pairs):
    """Rounds that take each point's neighbours in the order of the pairs."""
    return {point: neighbours(pairs, point) for pair in pairs for point in pair}


def straight(pairs, places):
    """Rounds of the drawing with straight lines between points at these places, which must not cross."""
    def angle(point, other):
        return atan2(places[other][1] - places[point][1], places[other][0] - places[point][0])

    return {point: sorted(around, key=lambda other: angle(point, other)) for point, around in in_order(pairs).items()}


def with_swap(rounds, point):
    """The same rounds, but two darts that follow one another at this point change places."""
    around = rounds[point]
    return {**rounds, point: [around[1], around[0]] + around[2:]}


def side_by_side(*drawings):
    """One drawing of several (pairs, rounds, by), each moved by so many points."""
    pairs = []
    rounds = {}
    for more, around, by in drawings:
        pairs = pairs + moved(more, by)
        rounds.update({point + by: [other + by for other in others] for point, others in around.items()})
    return pairs, rounds


def following_of(edges, rounds):
    """What is handed in for rounds whose points are called as in edges."""
    darts = {(edges[dart], edges[dart ^ 1]): dart for dart in range(len(edges))}
    following = [None] * len(edges)
    for point, around in rounds.items():
        for place, other in enumerate(around):
            following[darts[point, other]] = darts[point, around[(place + 1) % len(around)]]
    return following


def drawing_variants(n, pairs, rounds):
    """The same drawing with other numbers, orders and directions, and its mirror image, as (n, edges, following)."""
    for names, edges in named_variants(n, pairs):
        renamed = {names[point]: [names[other] for other in around] for point, around in rounds.items()}
        yield n, edges, following_of(edges, renamed)
        yield n, edges, following_of(edges, {point: around[::-1] for point, around in renamed.items()})


K4_PLANE = straight(complete(4), K4_PLACES)
K4_NOT_PLANE = with_swap(K4_PLANE, 0)
PATH = [(0, 1), (1, 2), (2, 3)]
BUSH = [(0, 1), (0, 2), (0, 3), (0, 4), (4, 5), (4, 6), (6, 7), (6, 8), (6, 9), (9, 10), (9, 11), (11, 12)]
STAR = [(0, point) for point in range(1, 13)]


def plane_drawings():
    """Plane drawings of at most 12 edges, as (n, pairs, rounds)."""
    for n in (0, 1, 2, 255, 256):
        yield n, [], {}
    for n, pairs in ((2, [(0, 1)]), (256, [(0, 255)]), (4, PATH), (13, BUSH), (13, STAR), (20, moved(BUSH, 7))):
        yield n, pairs, in_order(pairs)
    yield 3, complete(3), in_order(complete(3))
    yield 4, complete(4), K4_PLANE
    yield 8, CUBE, straight(CUBE, CUBE_PLACES)
    yield 6, OCTAHEDRON, straight(OCTAHEDRON, OCTAHEDRON_PLACES)
    ring = [(point, (point + 1) % 12) for point in range(12)]
    yield 12, ring, in_order(ring)
    matching = [(point, 255 - point) for point in range(12)]
    yield 256, matching, in_order(matching)
    for n, starts in ((8, (0, 4)), (30, (3, 20)), (256, (100, 252))):
        yield n, *side_by_side(*[(complete(4), K4_PLANE, start) for start in starts])
    yield 13, *side_by_side((complete(3), in_order(complete(3)), 0), (PATH, in_order(PATH), 4),
                            (complete(4), K4_PLANE, 9))


def drawings_not_plane():
    """Drawings of at most 12 edges that are not plane, as (n, pairs, rounds)."""
    for point in range(4):
        yield 4, complete(4), with_swap(K4_PLANE, point)
    yield 256, moved(complete(4), 252), side_by_side((complete(4), K4_NOT_PLANE, 252))[1]
    yield 5, K5, in_order(K5)
    yield 5, K5, in_order(K5[::-1])
    yield 6, K33, in_order(K33)
    yield 6, K33, in_order(sorted(K33, key=lambda pair: pair[0] * pair[1] % 7))
    yield 7, K5 + [(4, 5), (5, 6)], in_order(K5 + [(4, 5), (5, 6)])
    yield 256, *side_by_side((K33, in_order(K33), 17), (complete(3), in_order(complete(3)), 250))
    yield 8, *side_by_side((complete(4), K4_PLANE, 0), (complete(4), K4_NOT_PLANE, 4))
    yield 12, *side_by_side((complete(4), K4_NOT_PLANE, 1), (complete(4), K4_PLANE, 7))
    yield 8, *side_by_side((complete(4), K4_NOT_PLANE, 0), (complete(4), K4_NOT_PLANE, 4))
    yield 9, *side_by_side((PATH, in_order(PATH), 0), (complete(4), K4_NOT_PLANE, 5))
    yield 8, CUBE, with_swap(straight(CUBE, CUBE_PLACES), 5)
    yield 6, OCTAHEDRON, with_swap(straight(OCTAHEDRON, OCTAHEDRON_PLACES), 3)
    yield 5, without(K5, (0, 1)), in_order(without(K5, (0, 1)))


def no_drawings_from(edges, following):
    """Lists that are no drawing of a graph, each from a drawing of it by one change or two."""
    count = len(edges)
    for dart in range(count):
        elsewhere = [other for other in range(count) if edges[other] != edges[dart]]
        here = [other for other in range(count) if edges[other] == edges[dart]]
        outside = [-1, following[dart] - count, following[dart] + count, count, count + 1, LOWEST, HIGHEST]
        # Out of bounds, from another point, or one that follows another dart already.
        for wrong in outside + elsewhere + here:
            if wrong != following[dart]:
                yield following[:dart] + [wrong] + following[dart + 1:]
        # Two changed over: from another point though each dart still comes once, or two rounds at one point.
        for other in elsewhere + here:
            if other != dart:
                changed = list(following)
                changed[dart], changed[other] = following[other], following[dart]
                yield changed


def no_drawings_of_a_star(count):
    """(n, edges, following): a star of so many edges whose rounds are cut into pieces or never come back."""
    edges = [point for other in range(1, count + 1) for point in (0, other)]
    leaves = {dart: dart for dart in range(1, 2 * count, 2)}

    def star(middle):
        around = {2 * place: 2 * behind for place, behind in enumerate(middle)}
        return count + 1, edges, [{**leaves, **around}[dart] for dart in range(2 * count)]

    yield star(range(count))
    yield star([0] * count)
    yield star([min(place + 1, count - 1) for place in range(count)])
    for size in range(1, count):
        # The first `size` darts in one round, the others in another.
        yield star([(place + 1) % size if place < size else size + (place + 1 - size) % (count - size)
                    for place in range(count)])
        # All darts lead into a round without the first of them.
        yield star([place + 1 if place < count - 1 else size for place in range(count)])


def no_drawings():
    """What may be handed in but is no drawing of its graph, as (n, edges, following)."""
    triangle = [0, 1, 1, 2, 2, 0]
    for following in ([-1, 2, 1, 4, 3, 0], [6, 2, 1, 4, 3, 0], [5, 2, 1, 4, 3, -6], [0, 1, 2, 3, 4, 5],
                      [1, 2, 5, 4, 3, 0], [5, 2, 1, 4, 3, 5], [0, 2, 1, 4, 3, 0], [0, 2, 1, 4, 3, 5]):
        yield 3, triangle, following
    for following in ([1, 0], [0, 0], [0, 2], [-2, -1], [LOWEST, HIGHEST]):
        yield 2, [0, 1], following
        yield 256, [255, 0], following
    for n, pairs, rounds in list(plane_drawings()) + list(drawings_not_plane()):
        edges = flat(pairs)
        for following in no_drawings_from(edges, following_of(edges, rounds)):
            yield n, edges, following
    for count in (2, 3, 4, 5, 12):
        yield from no_drawings_of_a_star(count)
    yield from no_drawings_of_two_parts()


def no_drawings_of_two_parts():
    edges = flat(complete(4) + moved(complete(4), 4))
    good = following_of(flat(complete(4)), K4_PLANE)
    for wrong in no_drawings_from(flat(complete(4)), good):
        if min(wrong) >= 0 and max(wrong) < 12:
            yield 8, edges, good + [dart + 12 for dart in wrong]
            yield 8, edges, wrong + [dart + 12 for dart in good]
    # Each part's darts are followed by those of the other.
    yield 8, edges, [dart + 12 for dart in good] + good


def whatever(edges):
    """Lists as long as edges to hand in as following where there is no graph."""
    count = len(edges)
    yield list(range(count))
    yield list(range(count))[::-1]
    yield [0] * count
    yield [-1] * count
    yield [count] * count
    yield [LOWEST] * count
    yield [HIGHEST] * count
    yield ([LOWEST, HIGHEST] * count)[:count]
    # Leads round the darts with the same number, as a drawing would if the numbers were good.
    rounds = {}
    for dart, point in enumerate(edges):
        rounds.setdefault(point, []).append(dart)
    following = [None] * count
    for around in rounds.values():
        for place, dart in enumerate(around):
            following[dart] = around[(place + 1) % len(around)]
    yield following
