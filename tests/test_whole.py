"""Over the whole program: its calls agree with one another, and stand there as the interface says."""

import inspect
import unittest
from itertools import combinations

from drawings import CUBE, K4_NOT_PLANE, K4_PLANE, OCTAHEDRON, drawing_variants, drawings_not_plane, following_of
from drawings import no_drawings, plane_drawings, whatever
from graphs import K33, all_drawings, complete, connected_parts, flat, is_asked, moved, no_graphs, variants, without
from planedrawings import desk
from planedrawings.desk import check, faces, planar, why
from reasons import K5, along, graphs_that_are_no_reason, reasons


def parts_of(pairs):
    """All parts of a graph, as lists of edges' numbers."""
    for count in range(len(pairs) + 1):
        yield from (list(part) for part in combinations(range(len(pairs)), count))


class TestInterface(unittest.TestCase):
    def test_names_and_arguments(self):
        wanted = {"planar": ["n", "edges"], "check": ["n", "edges", "following"], "faces": ["n", "edges", "following"],
                  "why": ["n", "edges", "part"]}
        for name, arguments in wanted.items():
            parameters = inspect.signature(getattr(desk, name)).parameters.values()
            self.assertEqual([parameter.name for parameter in parameters], arguments)
            self.assertTrue(all(parameter.default is parameter.empty for parameter in parameters))

    def test_by_keyword(self):
        self.assertEqual(planar(n=2, edges=[0, 1]), [1])
        self.assertEqual(check(n=2, edges=[0, 1], following=[0, 1]), [1])
        self.assertEqual(faces(n=2, edges=[0, 1], following=[0, 1]), [1, 0, 0])
        self.assertEqual(why(n=2, edges=[0, 1], part=[0]), [0])


class TestNoGraphForAny(unittest.TestCase):
    def test_all_refuse_the_same(self):
        for n, edges in no_graphs():
            following = list(whatever(edges))[-1]
            answers = [planar(n, edges), check(n, edges, following), faces(n, edges, following), why(n, edges, [])]
            self.assertEqual(answers, [[-1]] * 4)

    def test_none_refuses_a_graph(self):
        for n, pairs, rounds in plane_drawings():
            edges = flat(pairs)
            if is_asked(edges):
                following = following_of(edges, rounds)
                self.assertEqual(planar(n, edges), [1])
                self.assertEqual(check(n, edges, following), [1])
                self.assertNotEqual(faces(n, edges, following), [-1])
                self.assertEqual(why(n, edges, []), [0])


class TestCheckAndFaces(unittest.TestCase):
    def check_agreement(self, n, edges, following):
        checked = check(n, edges, following)
        numbered = faces(n, edges, following)
        if checked == [-1] or numbered == [-1]:
            self.assertEqual(checked, numbered)
        else:
            wanted = sum(2 if len(part) > 1 else 1 for part in connected_parts(n, edges))
            plane = n - len(edges) // 2 + numbered[0] == wanted
            self.assertEqual(checked, [1 if plane else 0])
            self.assertEqual(sorted(set(numbered[1:])), list(range(numbered[0])))

    def test_drawings(self):
        for n, pairs, rounds in list(plane_drawings()) + list(drawings_not_plane()):
            for points, edges, following in drawing_variants(n, pairs, rounds):
                self.check_agreement(points, edges, following)

    def test_no_drawings(self):
        for n, edges, following in list(no_drawings())[::5]:
            self.check_agreement(n, edges, following)

    def test_every_drawing_of_small_graphs(self):
        graphs = [(4, complete(4)), (6, K33), (9, complete(4) + moved(complete(3), 5)), (5, without(K5, (0, 3)))]
        for n, pairs in graphs:
            for following in list(all_drawings(flat(pairs)))[::3]:
                self.check_agreement(n, flat(pairs), following)


class TestPlanarAndCheck(unittest.TestCase):
    def test_plane_drawings(self):
        for n, pairs, rounds in plane_drawings():
            for points, edges, following in drawing_variants(n, pairs, rounds):
                if is_asked(edges):
                    self.assertEqual(check(points, edges, following), planar(points, edges))

    def test_planar_just_where_some_drawing_is_plane(self):
        graphs = [(5, pairs) for count in range(11) for pairs in list(combinations(K5, count))[::5]]
        graphs += [(6, K33), (6, without(K33, (1, 4))), (6, K33 + [(1, 2)]), (7, along(K33, [0] * 8 + [1], 6)),
                   (8, CUBE), (10, complete(4) + moved(complete(4), 5)), (256, moved(K33, 200) + [(0, 255)])]
        for n, pairs in graphs:
            edges = flat(pairs)
            some = any(check(n, edges, following) == [1] for following in all_drawings(edges))
            self.assertEqual(planar(n, edges), [1 if some else 0], (n, edges))

    def test_a_drawing_that_is_not_plane_says_nothing(self):
        edges = flat(complete(4))
        self.assertEqual(check(4, edges, following_of(edges, K4_NOT_PLANE)), [0])
        self.assertEqual(check(4, edges, following_of(edges, K4_PLANE)), [1])
        self.assertEqual(planar(4, edges), [1])


class TestPlanarAndWhy(unittest.TestCase):
    """A graph has a plane drawing just where no part of it is a reason."""

    def check_graph(self, n, edges):
        some = any(why(n, edges, part) == [1] for part in parts_of(edges[::2]))
        self.assertEqual(planar(n, edges), [0 if some else 1], (n, edges))

    def test_all_graphs_of_four_points(self):
        for part in parts_of(complete(4)):
            self.check_graph(4, flat([complete(4)[edge] for edge in part]))

    def test_graphs_of_five_points(self):
        for part in list(parts_of(K5))[::-9]:
            self.check_graph(5, flat([K5[edge] for edge in part]))

    def test_graphs_of_more_points(self):
        ladder = [(point, (point + 1) % 8) for point in range(8)] + [(point, point + 4) for point in range(4)]
        graphs = [(6, K33), (7, K33 + [(0, 1), (2, 6)]), (6, without(K33, (2, 5)) + [(0, 1)]), (8, CUBE), (8, ladder),
                  (6, OCTAHEDRON[1:]), (7, along(K5, [0, 0, 2, 0, 0, 0, 0, 0, 0, 0], 5)), (5, without(K5, (0, 4))),
                  (12, moved(K33, 3) + [(0, 11)]), (7, without(K5, (1, 2)) + [(1, 5), (5, 2), (5, 6)])]
        for n, pairs in graphs:
            for points, edges in list(variants(n, pairs))[:2]:
                self.assertTrue(is_asked(edges))
                self.check_graph(points, edges)

    def test_a_reason_has_no_plane_drawing_but_less_an_edge_has_one(self):
        for n, pairs in list(reasons()) + list(graphs_that_are_no_reason()):
            edges = flat(pairs)
            if is_asked(edges):
                shorter = [edges[:dart] + edges[dart + 2:] for dart in range(0, len(edges), 2)]
                least = planar(n, edges) == [0] and all(planar(n, less) == [1] for less in shorter)
                self.assertEqual(why(n, edges, list(range(len(pairs)))), [1 if least else 0], (n, edges))


if __name__ == "__main__":
    unittest.main()
