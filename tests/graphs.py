"""Graphs for the tests, as lists of pairs of points, and ways to hand them in."""

from itertools import combinations, permutations, product
from math import factorial, gcd

K33 = [(a, b) for a in range(3) for b in range(3, 6)]


def complete(count):
    return list(combinations(range(count), 2))


def without(pairs, pair):
    return [other for other in pairs if other != pair]


def moved(pairs, by):
    return [(a + by, b + by) for a, b in pairs]


def divided(pairs, lines, point):
    """Divide the lines at these places once each, by points numbered from `point` on."""
    answer = []
    for place, (a, b) in enumerate(pairs):
        if place in lines:
            answer += [(a, point), (point, b)]
            point += 1
        else:
            answer.append((a, b))
    return answer


def flat(pairs):
    return [point for pair in pairs for point in pair]


def variants(n, pairs):
    """The same graph with other numbers, orders and directions, as (n, edges)."""
    yield n, flat(pairs)
    yield n, flat([(b, a) for a, b in pairs])
    yield n, flat(reversed(pairs))
    yield n, flat([(n - 1 - a, n - 1 - b) for a, b in pairs])
    yield n, flat([pair if place % 2 else pair[::-1] for place, pair in enumerate(sorted(pairs, key=sum))])
    for factor in (3, 5, 7, 11):
        if gcd(factor, n) == 1:
            renamed = [(a * factor % n, (b * factor + n) % n) for a, b in pairs]
            turn = factor % max(1, len(renamed))
            yield n, flat(renamed[turn:] + renamed[:turn])


def factorial_product(edges):
    answer = 1
    for point in set(edges):
        answer *= factorial(edges.count(point) - 1)
    return answer


def is_asked(edges):
    return len(edges) <= 28 and factorial_product(edges) <= 20000


def all_drawings(edges):
    """Every drawing of the graph, straight from the document's words."""
    rounds = []
    for point in sorted(set(edges)):
        darts = [dart for dart in range(len(edges)) if edges[dart] == point]
        rounds.append([(darts[0],) + rest for rest in permutations(darts[1:])])
    for chosen in product(*rounds):
        following = [None] * len(edges)
        for one in chosen:
            for place, dart in enumerate(one):
                following[dart] = one[(place + 1) % len(one)]
        yield following


def faces_of(following):
    left = set(range(len(following)))
    count = 0
    while left:
        count += 1
        dart = min(left)
        while dart in left:
            left.remove(dart)
            dart = following[dart + 1 if dart % 2 == 0 else dart - 1]
    return count


def connected_parts(n, edges):
    parts = [{point} for point in range(n)]
    for a, b in zip(edges[::2], edges[1::2]):
        joined = [part for part in parts if a in part or b in part]
        parts = [part for part in parts if part not in joined] + [set().union(*joined)]
    return parts


def has_plane_drawing_by_definition(n, edges):
    wanted = sum(2 if len(part) > 1 else 1 for part in connected_parts(n, edges))
    return any(n - len(edges) // 2 + faces_of(following) == wanted for following in all_drawings(edges))
