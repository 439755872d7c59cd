"""The calls of planedrawings.

Edge e has the points edges[2 * e] and edges[2 * e + 1], and dart d goes from the point edges[d]; the dart that goes
back from d is d ^ 1. A drawing is a list with, for each dart, the dart that follows it round the point they go from.
"""

MOST_POINTS = 256
MOST_EDGES = 1024


def planar(n, edges):
    """Answer [1] where the graph has a plane drawing, [0] where it has none, [-1] where there is no graph."""
    if not is_graph(n, edges):
        return [-1]
    if has_plane_drawing(edges):
        return [1]
    return [0]


def check(n, edges, following):
    """Answer [1] where following is a plane drawing, [0] where it is one that is not plane, [-1] where it is none."""
    if not is_graph(n, edges) or not is_drawing(edges, following):
        return [-1]
    if face_count(following) == plane_face_count(edges):
        return [1]
    return [0]


def faces(n, edges, following):
    """Answer how many faces the drawing has, then the number of each dart's face, or [-1] where there is no drawing."""
    if not is_graph(n, edges) or not is_drawing(edges, following):
        return [-1]
    return [face_count(following)] + face_of_darts(following)


def why(n, edges, part):
    """Answer [1] where the edges at part are a reason, [0] where they are none, [-1] where there is no graph."""
    if not is_graph(n, edges) or len(part) > MOST_EDGES:
        return [-1]
    if are_edges_told_once(edges, part) and is_reason(edges, part):
        return [1]
    return [0]


def is_graph(n, edges):
    """Tell whether n and edges are a graph as the document says."""
    if n < 0 or n > MOST_POINTS or len(edges) > 2 * MOST_EDGES:
        return False
    seen = {}
    for dart in range(0, len(edges), 2):
        low = min(edges[dart], edges[dart + 1])
        high = max(edges[dart], edges[dart + 1])
        if low < 0 or high >= n or low == high or (low, high) in seen:
            return False
        seen[(low, high)] = True
    return True


def is_drawing(edges, following):
    """Tell whether following leads round all darts of each point, each once."""
    for dart in range(len(edges)):
        if following[dart] < 0 or following[dart] >= len(edges) or edges[following[dart]] != edges[dart]:
            return False
    every_edge = list(range(len(edges) // 2))
    return all([is_one_round(darts, following) for darts in darts_by_point(edges, every_edge).values()])


def darts_by_point(edges, part):
    """For each point that the edges at part have, the darts of these edges that go from it."""
    leaving = {}
    for edge in part:
        for dart in (2 * edge, 2 * edge + 1):
            leaving.setdefault(edges[dart], []).append(dart)
    return leaving


def is_one_round(darts, following):
    """Tell whether following leads from the first of these darts over all the others back to it."""
    # Where it never comes back, only the count of the steps ends the walk.
    dart = following[darts[0]]
    steps = 1
    while dart != darts[0] and steps < len(darts):
        dart = following[dart]
        steps += 1
    return dart == darts[0] and steps == len(darts)


def has_plane_drawing(edges):
    """Tell whether the graph has a plane drawing, by drawing one edge after the other in every way."""
    # A plane drawing stays plane when an edge is taken out of it, so one that is not plane is not worth going on with.
    wanted = [plane_face_count(edges[:2 * drawn]) for drawn in range(len(edges) // 2 + 1)]
    waiting = [[]]
    while len(waiting) > 0:
        following = waiting.pop()
        if len(following) == len(edges):
            return True
        for longer in drawings_with_one_more_edge(edges, following):
            if face_count(longer) == wanted[len(longer) // 2]:
                waiting.append(longer)
    return False


def plane_face_count(edges):
    """How many faces a plane drawing of these edges has."""
    # A point without edges counts one on both sides of the document's sum, so only points with edges are looked at.
    parts = part_of_points(edges)
    part_count = len([point for point in parts if parts[point] == point])
    return 2 * part_count - len(parts) + len(edges) // 2


def part_of_points(edges):
    """For each point that has edges, one point of its connected part: the same for all points of that part."""
    parts = {}
    for dart in range(0, len(edges), 2):
        kept = parts.setdefault(edges[dart], edges[dart])
        given_up = parts.setdefault(edges[dart + 1], edges[dart + 1])
        for point in list(parts):
            if parts[point] == given_up:
                parts[point] = kept
    return parts


def drawings_with_one_more_edge(edges, following):
    """All drawings that a drawing of the first edges becomes when the next edge is drawn too."""
    there = len(following)
    back = there + 1
    drawings = []
    for ahead_of_there in places_for_dart(edges, following, there):
        for ahead_of_back in places_for_dart(edges, following, back):
            longer = following + [there, back]
            put_behind(longer, ahead_of_there, there)
            put_behind(longer, ahead_of_back, back)
            drawings.append(longer)
    return drawings


def places_for_dart(edges, following, dart):
    """The drawn darts behind which the new dart may come round its point; itself, where it is alone there."""
    drawn = [other for other in range(len(following)) if edges[other] == edges[dart]]
    if len(drawn) == 0:
        return [dart]
    return drawn


def put_behind(following, ahead, dart):
    """Put a dart that is still alone into the round of the dart ahead of it."""
    following[dart] = following[ahead]
    following[ahead] = dart


def face_count(following):
    """How many faces a drawing has."""
    return max(face_of_darts(following), default=-1) + 1


def face_of_darts(following):
    """For each dart of a drawing the number of its face, in the order of the faces' lowest darts."""
    found = 0
    numbers = [-1 for dart in following]
    for lowest in range(len(following)):
        if numbers[lowest] == -1:
            dart = lowest
            while numbers[dart] == -1:
                numbers[dart] = found
                dart = following[dart ^ 1]
            found += 1
    return numbers


def are_edges_told_once(edges, part):
    """Tell whether each number of part is an edge's, and none stands there twice."""
    for edge in part:
        if edge < 0 or edge >= len(edges) // 2:
            return False
    return len(set(part)) == len(part)


def is_reason(edges, part):
    """Tell whether these edges, each told once, are K5 or K3,3 with its lines divided."""
    # A line is divided at points of just two edges, so the ways run between the others. What the ways leave over are
    # rounds with points of two edges alone. Each way is walked from both of its ends.
    leaving = darts_by_point(edges, part)
    joined = {}
    walked = 0
    for point in leaving:
        if len(leaving[point]) != 2:
            ways = [way_from(edges, leaving, dart) for dart in leaving[point]]
            joined[point] = sorted([edges[way[-1] ^ 1] for way in ways])
            walked += sum([len(way) for way in ways])
    return walked == 2 * len(part) and (are_five(joined) or are_three_and_three(joined))


def way_from(edges, leaving, dart):
    """The darts of the way that begins with this one, up to the first point that has not just two edges."""
    way = [dart]
    while len(leaving[edges[dart ^ 1]]) == 2:
        pair = leaving[edges[dart ^ 1]]
        dart = pair[1] if pair[0] == dart ^ 1 else pair[0]
        way.append(dart)
    return way


def are_five(joined):
    """Tell whether these are five points, each joined to each other one by just one way."""
    points = sorted(joined)
    return len(points) == 5 and all([joined[point] == without(points, [point]) for point in points])


def are_three_and_three(joined):
    """Tell whether these are three points and three others, each joined to each of the others by just one way."""
    points = sorted(joined)
    if len(points) != 6:
        return False
    others = joined[points[0]]
    first = without(points, others)
    return len(first) == 3 and all([joined[point] == (first if point in others else others) for point in points])


def without(points, left_out):
    """The points that are not among those left out."""
    return [point for point in points if point not in left_out]
