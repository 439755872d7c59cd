"""Promise 1: planar."""

import contextlib
import io
import time
import unittest
from itertools import combinations

from graphs import HIGHEST, K33, LOWEST, KeptList, complete, divided, factorial_product, flat
from graphs import has_plane_drawing_by_definition, is_asked, moved, variants, without
from planedrawings.desk import planar

K5 = complete(5)
MOEBIUS_LADDER = [(point, (point + 1) % 8) for point in range(8)] + [(point, point + 4) for point in range(4)]

# Degrees 5, 5, 3, 3, 3, 3, 3: no 14 edges come nearer to a product of 20000.
MOST_PLANE = ([(0, point) for point in range(1, 6)] + [(point, point % 5 + 1) for point in range(1, 6)]
              + [(1, 6), (1, 7), (6, 8), (6, 9)])
MOST_NOT_PLANE = divided(K33, [K33.index((1, 5))], 6) + [(0, 6), (0, 1), (1, 7), (8, 9)]


class PlanarCase(unittest.TestCase):
    def check_answer(self, answer, n, pairs):
        for points, edges in variants(n, pairs):
            with self.subTest(n=points, edges=edges):
                self.assertTrue(is_asked(edges))
                self.assertEqual(planar(points, edges), [answer])


class TestPlaneGraphs(PlanarCase):
    def test_no_edges(self):
        for n in (0, 1, 2, 7, 255, 256):
            self.assertEqual(planar(n, []), [1])

    def test_one_edge(self):
        self.check_answer(1, 2, [(0, 1)])
        self.check_answer(1, 256, [(0, 255)])

    def test_triangle(self):
        self.check_answer(1, 3, complete(3))

    def test_trees(self):
        self.check_answer(1, 15, [(point, point + 1) for point in range(14)])
        self.check_answer(1, 15, [((point - 1) // 2, point) for point in range(1, 15)])
        self.check_answer(1, 9, [(0, point) for point in range(1, 9)])

    def test_complete_graphs(self):
        self.check_answer(1, 4, complete(4))
        for pair in K5:
            self.check_answer(1, 5, without(K5, pair))

    def test_three_and_three_less_a_line(self):
        for pair in K33:
            self.check_answer(1, 6, without(K33, pair))

    def test_two_and_many(self):
        self.check_answer(1, 8, [(a, b) for a in range(2) for b in range(2, 8)])

    def test_dense_graphs(self):
        octahedron = [pair for pair in complete(6) if sum(pair) != 5]
        self.check_answer(1, 6, octahedron[:-1])
        self.check_answer(1, 6, [(5, point) for point in range(5)] + [(point, (point + 1) % 5) for point in range(5)])
        cube = [(a, b) for a, b in complete(8) if a ^ b in (1, 2, 4)]
        self.check_answer(1, 8, cube)

    def test_several_parts(self):
        self.check_answer(1, 6, complete(3) + moved(complete(3), 3))
        self.check_answer(1, 8, complete(4) + moved(complete(4), 4))
        self.check_answer(1, 14, [(point, point + 1) for point in range(0, 14, 2)])
        self.check_answer(1, 9, without(K5, (1, 3)) + [(5, 6), (6, 7), (7, 8)])

    def test_several_parts_with_lone_points_between(self):
        self.check_answer(1, 40, complete(4) + moved(complete(3), 9) + moved(complete(2), 38))
        self.check_answer(1, 256, moved(complete(4), 100) + moved(complete(4), 252))

    def test_parts_that_are_joined_late(self):
        self.check_answer(1, 20, [(0, 1), (2, 3), (0, 2), (10, 11), (12, 13), (10, 12), (1, 11), (3, 13)])


class TestGraphsWithoutPlaneDrawing(PlanarCase):
    def test_five_points(self):
        self.check_answer(0, 5, K5)

    def test_five_points_with_divided_lines(self):
        for lines in ([0], [9], [2, 5], [1, 4, 7], [0, 3, 6, 9]):
            self.check_answer(0, 5 + len(lines), divided(K5, lines, 5))

    def test_three_and_three(self):
        self.check_answer(0, 6, K33)

    def test_three_and_three_with_divided_lines(self):
        for lines in ([0], [8], [1, 3], [0, 4, 8], [0, 1, 2], [0, 2, 4, 6, 8]):
            self.check_answer(0, 6 + len(lines), divided(K33, lines, 6))

    def test_a_line_divided_often(self):
        self.check_answer(0, 11, without(K33, (0, 3)) + [(0, 6), (6, 7), (7, 8), (8, 9), (9, 10), (10, 3)])

    def test_petersen_less_an_edge(self):
        ring = [(point, (point + 1) % 5) for point in range(5)]
        star = [(5 + point, 5 + (point + 2) % 5) for point in range(5)]
        spokes = [(point, point + 5) for point in range(5)]
        self.check_answer(0, 10, ring[1:] + star + spokes)

    def test_ladder_with_a_twist(self):
        self.check_answer(0, 8, MOEBIUS_LADDER)

    def test_beside_another_part(self):
        self.check_answer(0, 9, K33 + moved(complete(3), 6))
        self.check_answer(0, 9, K5 + [(5, 6), (6, 7), (7, 8)])
        self.check_answer(0, 13, [(0, 1), (2, 3)] + moved(K5, 4) + [(10, 11), (11, 12)])

    def test_beside_lone_points(self):
        self.check_answer(0, 7, K33)
        self.check_answer(0, 30, moved(K5, 12))
        self.check_answer(0, 256, moved(K33, 250))
        self.check_answer(0, 256, moved(K5, 130))

    def test_joined_to_more(self):
        self.check_answer(0, 11, K33 + [(0, 6), (6, 7), (7, 8), (8, 9), (9, 10)])
        self.check_answer(0, 6, K33 + [(0, 1), (3, 4)])


class TestAgainstOtherWays(unittest.TestCase):
    def test_all_graphs_of_five_points(self):
        for mask in range(1024):
            edges = flat([pair for place, pair in enumerate(K5) if mask >> place & 1])
            self.assertEqual(planar(5, edges), [0 if mask == 1023 else 1], edges)

    def test_graphs_of_six_points_by_their_reasons(self):
        pairs = complete(6)
        reasons = [self.mask_of(pairs, reason) for reason in self.reasons_of_six_points()]
        for mask in range(0, 2 ** 15, 7):
            edges = flat([pair for place, pair in enumerate(pairs) if mask >> place & 1])
            if is_asked(edges):
                expected = 0 if any(mask & reason == reason for reason in reasons) else 1
                self.assertEqual(planar(6, edges), [expected], edges)

    def mask_of(self, pairs, reason):
        return sum(1 << pairs.index(tuple(sorted(pair))) for pair in reason)

    def reasons_of_six_points(self):
        for left in combinations(range(6), 3):
            yield [(a, b) for a in left for b in range(6) if b not in left]
        for sixth in range(6):
            lines = list(combinations([point for point in range(6) if point != sixth], 2))
            yield lines
            for line in lines:
                yield without(lines, line) + [(line[0], sixth), (sixth, line[1])]

    def test_by_the_definition(self):
        graphs = [(0, []), (3, []), (7, [(1, 3), (3, 5), (5, 1)]), (7, K33), (9, without(K33, (2, 4)))]
        graphs += [(6, K33 + [(0, 1)]), (8, complete(4) + [(5, 6)]), (6, without(K5, (0, 1)) + [(0, 5)])]
        graphs += [(8, divided(K33, [0, 5], 6)), (9, K33 + moved(complete(3), 6)), (5, K5)]
        graphs += [(8, [pair for pair in complete(8) if pair[0] ^ pair[1] in (1, 2, 4)])]
        graphs += [(8, MOEBIUS_LADDER), (10, MOST_PLANE[:-2])]
        for n, pairs in graphs:
            edges = flat(pairs)
            expected = 1 if has_plane_drawing_by_definition(n, edges) else 0
            self.assertEqual(planar(n, edges), [expected], (n, edges))


class TestTheMostThatIsAsked(unittest.TestCase):
    def check_in_time(self, answer, n, pairs, least_product):
        edges = flat(pairs)
        self.assertTrue(is_asked(edges))
        self.assertGreaterEqual(factorial_product(edges), least_product)
        for points, variant in variants(n, pairs):
            start = time.monotonic()
            self.assertEqual(planar(points, variant), [answer])
            self.assertLess(time.monotonic() - start, 5)

    def test_no_plane_drawing(self):
        hanging = [(point, point + 6) for point in range(5)]
        self.check_in_time(0, 11, hanging + K33, 15552)
        self.check_in_time(0, 11, K33 + hanging, 15552)
        self.check_in_time(0, 14, [(10, 11), (10, 12), (10, 13)] + K5, 15552)
        self.check_in_time(0, 256, moved(K5, 3) + [(0, 255), (0, 254), (0, 253), (2, 1)], 15552)
        self.check_in_time(0, 10, MOST_NOT_PLANE, 18432)
        self.check_in_time(0, 11, [(0, 6), (0, 7), (0, 8), (1, 9)] + K33, 11520)

    def test_plane_drawing(self):
        star = [(0, point) for point in range(1, 9)]
        self.check_in_time(1, 14, star + [(9, 10), (9, 11), (9, 12), (12, 13)], 10080)
        self.check_in_time(1, 9, star + [(1, 2), (3, 4), (5, 6), (7, 8)], 5040)
        self.check_in_time(1, 10, MOST_PLANE, 18432)
        self.check_in_time(1, 11, [(0, 1)] + [(point, other) for point in (0, 1) for other in range(2, 7)], 14400)

    def test_fourteen_edges_of_both_kinds(self):
        matching = [(point, point + 1) for point in range(6, 16, 2)]
        self.check_in_time(0, 16, matching + K33, 64)
        self.check_in_time(1, 256, [(point, 255 - point) for point in range(14)], 1)


class TestNoGraph(unittest.TestCase):
    def check_refused(self, n, edges):
        with self.subTest(n=n, length=len(edges), edges=edges[:12]):
            self.assertEqual(planar(n, edges), [-1])

    def test_wrong_number_of_points(self):
        for n in (-1, -2, 257, 258, 1024, LOWEST, HIGHEST):
            self.check_refused(n, [])

    def test_point_below_zero(self):
        for wrong in (-1, -2, -3, LOWEST):
            self.check_refused(3, [0, 1, wrong, 2])
            self.check_refused(3, [0, 1, 2, wrong])
            self.check_refused(256, [wrong, 0])

    def test_point_too_high(self):
        for wrong in (3, 4, 256, HIGHEST):
            self.check_refused(3, [0, 1, wrong, 2])
            self.check_refused(3, [0, 1, 2, wrong])
        for wrong in (256, 257, HIGHEST):
            self.check_refused(256, [wrong, 0])
            self.check_refused(256, [0, wrong])

    def test_lowest_and_highest_numbers(self):
        self.check_refused(256, [LOWEST, HIGHEST])
        self.check_refused(256, [HIGHEST, LOWEST] * 1024)
        self.check_refused(0, [LOWEST, LOWEST])

    def test_edge_from_a_point_to_itself(self):
        self.check_refused(1, [0, 0])
        self.check_refused(5, [0, 1, 4, 4, 2, 3])
        self.check_refused(256, [255, 255])

    def test_edge_told_twice(self):
        self.check_refused(2, [0, 1, 0, 1])
        self.check_refused(2, [0, 1, 1, 0])
        self.check_refused(4, [3, 1, 0, 1, 2, 3, 3, 1])
        self.check_refused(4, [3, 1, 0, 1, 2, 3, 1, 3])

    def test_no_points_but_edges(self):
        self.check_refused(0, [0, 1])
        self.check_refused(0, [0, 0])
        self.check_refused(0, [-1, -2])

    def test_one_point_but_edges(self):
        self.check_refused(1, [0, 1])

    def test_a_wrong_edge_beside_a_reason(self):
        self.check_refused(5, flat(K5) + [2, 4])
        self.check_refused(6, flat(K33) + [5, 6])
        self.check_refused(5, flat(K5) + [2, 2])

    def test_as_long_as_may_be(self):
        pairs = complete(256)[:1023]
        for wrong in (pairs[0], pairs[0][::-1], pairs[-1], (7, 7), (-1, 3), (3, 256), (HIGHEST, 0), (0, LOWEST)):
            self.check_refused(256, flat(pairs + [wrong]))
            self.check_refused(256, flat([wrong] + pairs))
            self.check_refused(256, flat(pairs[:500] + [wrong] + pairs[500:]))
        self.check_refused(0, [0, 1] * 1024)
        self.check_refused(256, [0, 0] * 1024)

    def test_just_within(self):
        self.assertEqual(planar(256, [0, 255]), [1])
        self.assertEqual(planar(2, [1, 0]), [1])
        self.assertEqual(planar(256, []), [1])


class TestHandedInAndGivenBack(unittest.TestCase):
    CALLS = [(5, flat(K5), 0), (6, flat(K33), 0), (4, flat(complete(4)), 1), (3, [0, 1, 1, 0], -1), (0, [], 1),
             (-1, [], -1), (9, flat([(0, point) for point in range(1, 9)]), 1)]

    def test_edges_stay_as_they_are(self):
        for n, edges, answer in self.CALLS:
            kept = KeptList(edges)
            self.assertEqual(planar(n, kept), [answer])
            self.assertEqual(list(kept), edges)

    def test_same_answer_again(self):
        for n, edges, answer in self.CALLS + self.CALLS[::-1]:
            edges = list(edges)
            before = list(edges)
            self.assertEqual(planar(n, edges), [answer])
            self.assertEqual(planar(n, edges), [answer])
            self.assertEqual(edges, before)

    def test_answer_is_a_list_of_its_own(self):
        for n, edges, answer in self.CALLS:
            given = planar(n, edges)
            self.assertIs(type(given), list)
            self.assertIs(type(given[0]), int)
            given.append(99)
            self.assertEqual(planar(n, edges), [answer])

    def test_nothing_is_printed(self):
        printed = io.StringIO()
        with contextlib.redirect_stdout(printed), contextlib.redirect_stderr(printed):
            for n, edges, answer in self.CALLS:
                planar(n, edges)
        self.assertEqual(printed.getvalue(), "")


if __name__ == "__main__":
    unittest.main()
