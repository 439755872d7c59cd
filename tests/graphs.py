"""Graphs for the tests, as lists of pairs of points, and ways to hand them in."""

from itertools import combinations, permutations, product
from math import factorial, gcd

LOWEST = -2147483648
HIGHEST = 2147483647
K33 = [(a, b) for a in range(3) for b in range(3, 6)]


class KeptList(list):
    """A list that fails the test when it is changed, even if it's changed back afterwards."""

    def refuse(self, *arguments, **named):
        raise AssertionError("the list that was handed in was changed")

    __setitem__ = __delitem__ = __iadd__ = __imul__ = refuse
    append = clear = extend = insert = pop = remove = reverse = sort = refuse


def complete(count):
    return list(combinations(range(count), 2))


def without(pairs, pair):
    return [other for other in pairs if other != pair]


def moved(pairs, by):
    return [(a + by, b + by) for a, b in pairs]


def divided(pairs, lines, point):
    """Divide the lines at these places once each, by points numbered from `point` on."""
    answer = []
    for place, (a, b) in enumerate(pairs):
        if place in lines:
            answer += [(a, point), (point, b)]
            point += 1
        else:
            answer.append((a, b))
    return answer


def flat(pairs):
    return [point for pair in pairs for point in pair]


def variants(n, pairs):
    """The same graph with other numbers, orders and directions, as (n, edges)."""
    for names, edges in named_variants(n, pairs):
        yield n, edges


def named_variants(n, pairs):
    """Like variants, as (names, edges): names[point] is what the point is called in edges."""
    same = list(range(n))
    yield same, flat(pairs)
    yield same, flat([(b, a) for a, b in pairs])
    yield same, flat(reversed(pairs))
    yield same[::-1], flat([(n - 1 - a, n - 1 - b) for a, b in pairs])
    yield same, flat([pair if place % 2 else pair[::-1] for place, pair in enumerate(sorted(pairs, key=sum))])
    for factor in (3, 5, 7, 11):
        if gcd(factor, n) == 1:
            names = [point * factor % n for point in range(n)]
            renamed = [(names[a], names[b]) for a, b in pairs]
            turn = factor % max(1, len(renamed))
            yield names, flat(renamed[turn:] + renamed[:turn])


def no_graphs():
    """What may be handed in but is no graph, as (n, edges)."""
    for n in (-1, -2, 257, 258, 1024, LOWEST, HIGHEST):
        yield n, []
    for wrong in (-1, -2, -3, LOWEST, 3, 4, 256, HIGHEST):
        yield 3, [0, 1, wrong, 2]
        yield 3, [0, 1, 2, wrong]
        yield 3, [wrong, 1, 1, 2, 2, 0]
    for wrong in (-1, -256, LOWEST, 256, 257, HIGHEST):
        yield 256, [wrong, 0]
        yield 256, [0, wrong]
    yield 256, [LOWEST, HIGHEST]
    yield from ((0, [0, 1]), (0, [0, 0]), (0, [-1, -2]), (0, [LOWEST, LOWEST]), (1, [0, 1]))
    yield from ((1, [0, 0]), (5, [0, 1, 4, 4, 2, 3]), (256, [255, 255]))
    yield from ((2, [0, 1, 0, 1]), (2, [0, 1, 1, 0]), (4, [3, 1, 0, 1, 2, 3, 3, 1]), (4, [3, 1, 0, 1, 2, 3, 1, 3]))
    yield from ((5, flat(complete(5)) + [2, 4]), (6, flat(K33) + [5, 6]), (5, flat(complete(5)) + [2, 2]))
    yield from no_graphs_as_long_as_may_be()


def no_graphs_as_long_as_may_be():
    pairs = complete(256)[:1023]
    for wrong in (pairs[0], pairs[0][::-1], pairs[-1], (7, 7), (-1, 3), (3, 256), (HIGHEST, 0), (0, LOWEST)):
        yield 256, flat(pairs + [wrong])
        yield 256, flat([wrong] + pairs)
        yield 256, flat(pairs[:500] + [wrong] + pairs[500:])
    yield 256, [HIGHEST, LOWEST] * 1024
    yield 256, [0, 0] * 1024
    yield 0, [0, 1] * 1024


def factorial_product(edges):
    answer = 1
    for point in set(edges):
        answer *= factorial(edges.count(point) - 1)
    return answer


def is_asked(edges):
    return len(edges) <= 28 and factorial_product(edges) <= 20000


def all_drawings(edges):
    """Every drawing of the graph, straight from the document's words."""
    rounds = []
    for point in sorted(set(edges)):
        darts = [dart for dart in range(len(edges)) if edges[dart] == point]
        rounds.append([(darts[0],) + rest for rest in permutations(darts[1:])])
    for chosen in product(*rounds):
        following = [None] * len(edges)
        for one in chosen:
            for place, dart in enumerate(one):
                following[dart] = one[(place + 1) % len(one)]
        yield following


def faces_of(following):
    """How many faces there are."""
    return len(face_sets(following))


def face_sets(following):
    """The faces as sets of darts."""
    faces = []
    left = set(range(len(following)))
    while left:
        face = []
        dart = max(left)
        while dart in left:
            left.remove(dart)
            face.append(dart)
            dart = following[dart + 1 if dart % 2 == 0 else dart - 1]
        faces.append(set(face))
    return faces


def faces_by_definition(following):
    """What faces answers for a drawing."""
    numbered = sorted(face_sets(following), key=min)
    return [len(numbered)] + [number for dart in range(len(following))
                              for number, face in enumerate(numbered) if dart in face]


def connected_parts(n, edges):
    parts = [{point} for point in range(n)]
    for a, b in zip(edges[::2], edges[1::2]):
        joined = [part for part in parts if a in part or b in part]
        parts = [part for part in parts if part not in joined] + [set().union(*joined)]
    return parts


def is_plane_by_definition(n, edges, following):
    wanted = sum(2 if len(part) > 1 else 1 for part in connected_parts(n, edges))
    return n - len(edges) // 2 + faces_of(following) == wanted


def has_plane_drawing_by_definition(n, edges):
    return any(is_plane_by_definition(n, edges, following) for following in all_drawings(edges))
