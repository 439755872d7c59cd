"""Promise 3: faces."""

import contextlib
import io
import unittest
from itertools import product

from drawings import BUSH, CUBE, K4_NOT_PLANE, K4_PLANE, K5, PATH, STAR, drawing_variants, drawings_not_plane
from drawings import following_of, in_order, no_drawings, plane_drawings, whatever
from graphs import HIGHEST, K33, LOWEST, KeptList, all_drawings, complete, divided, faces_by_definition, flat
from graphs import moved, no_graphs, without
from planedrawings.desk import faces

K4 = flat(complete(4))
TWO_TRIANGLES = [0, 1, 3, 4, 1, 2, 4, 5, 2, 0, 5, 3]


class FacesCase(unittest.TestCase):
    def check_answer(self, answer, n, edges, following):
        with self.subTest(n=n, length=len(edges), edges=edges[:24], following=following[:24]):
            self.assertEqual(faces(n, edges, following), answer)


class TestDrawings(FacesCase):
    def test_no_edges(self):
        for n in (0, 1, 2, 17, 255, 256):
            self.check_answer([0], n, [], [])

    def test_one_edge(self):
        self.check_answer([1, 0, 0], 2, [0, 1], [0, 1])
        self.check_answer([1, 0, 0], 2, [1, 0], [0, 1])
        self.check_answer([1, 0, 0], 256, [255, 3], [0, 1])

    def test_trees(self):
        for pairs in (PATH, BUSH, STAR):
            for n, edges, following in drawing_variants(30, pairs, in_order(pairs)):
                self.check_answer([1] + [0] * len(edges), n, edges, following)

    def test_triangle(self):
        self.check_answer([2, 0, 1, 0, 1, 0, 1], 3, [0, 1, 1, 2, 2, 0], [5, 2, 1, 4, 3, 0])
        self.check_answer([2, 0, 1, 0, 1, 1, 0], 3, [0, 1, 1, 2, 0, 2], [4, 2, 1, 5, 0, 3])
        self.check_answer([2, 0, 1, 0, 1, 0, 1], 256, [255, 7, 7, 0, 0, 255], [5, 2, 1, 4, 3, 0])

    def test_four_points_plane(self):
        self.check_answer([4, 0, 1, 2, 0, 1, 2, 0, 3, 3, 1, 2, 3], 4, K4, [4, 6, 0, 10, 2, 9, 8, 3, 1, 11, 7, 5])

    def test_four_points_not_plane(self):
        self.check_answer([2, 0, 0, 0, 0, 0, 0, 0, 1, 1, 0, 0, 1], 4, K4, [2, 6, 4, 10, 0, 9, 8, 3, 1, 11, 7, 5])

    def test_two_parts_edge_by_edge(self):
        following = [9, 4, 11, 6, 1, 8, 3, 10, 5, 0, 7, 2]
        expected = [4, 0, 1, 2, 3, 0, 1, 2, 3, 0, 1, 2, 3]
        self.check_answer(expected, 6, TWO_TRIANGLES, following)
        self.check_answer(expected, 256, [point * 51 for point in TWO_TRIANGLES], following)

    def test_several_edges_apart(self):
        edges = [point for edge in range(12) for point in (edge, 255 - edge)]
        self.check_answer([12] + [dart // 2 for dart in range(24)], 256, edges, list(range(24)))

    def test_plane_drawings(self):
        for n, pairs, rounds in plane_drawings():
            for points, edges, following in drawing_variants(n, pairs, rounds):
                self.check_answer(faces_by_definition(following), points, edges, following)

    def test_drawings_that_are_not_plane(self):
        for n, pairs, rounds in drawings_not_plane():
            for points, edges, following in drawing_variants(n, pairs, rounds):
                self.check_answer(faces_by_definition(following), points, edges, following)

    def test_every_drawing_of_some_graphs(self):
        graphs = [(4, complete(4), 1), (6, K33, 1), (5, K5, 7), (5, without(K5, (1, 3)), 3), (8, CUBE, 1),
                  (9, divided(K33, [0, 4, 8], 6), 1), (8, complete(4) + moved(complete(3), 5), 1),
                  (256, moved(K33, 40) + moved(complete(3), 253), 1)]
        for n, pairs, step in graphs:
            edges = flat(pairs)
            for following in list(all_drawings(edges))[::step]:
                if faces(n, edges, following) != faces_by_definition(following):
                    self.fail((n, edges, following))


class TestNoDrawing(FacesCase):
    def test_no_drawings(self):
        for n, edges, following in no_drawings():
            self.check_answer([-1], n, edges, following)

    def test_every_list_of_numbers(self):
        for n, pairs, numbers in ((2, [(0, 1)], range(-4, 5)), (3, [(0, 1), (2, 1)], range(-5, 6)),
                                  (5, [(4, 1), (2, 3)], range(-5, 6)), (3, complete(3), range(6)),
                                  (4, [(0, 3), (3, 1), (2, 3)], range(6))):
            edges = flat(pairs)
            expected = {tuple(following): faces_by_definition(following) for following in all_drawings(edges)}
            for following in product(numbers, repeat=len(edges)):
                if faces(n, edges, list(following)) != expected.get(following, [-1]):
                    self.fail((n, edges, following))


class TestNoGraph(FacesCase):
    def test_no_graphs(self):
        for n, edges in no_graphs():
            for following in whatever(edges):
                self.check_answer([-1], n, edges, following)

    def test_a_wrong_edge_beside_a_drawing(self):
        following = following_of(K4, K4_PLANE)
        for wrong in ([0, 4], [4, 0], [-1, 0], [2, -1], [2, 2], [1, 3], [3, 1], [HIGHEST, 0], [0, LOWEST]):
            for rest in ([12, 13], [0, 1], [-1, 14], [LOWEST, HIGHEST]):
                self.check_answer([-1], 4, K4 + wrong, following + rest)

    def test_just_within(self):
        self.check_answer([1, 0, 0], 256, [255, 0], [0, 1])
        self.check_answer([-1], 255, [255, 0], [0, 1])
        self.check_answer([0], 256, [], [])
        self.check_answer([-1], 257, [], [])


class TestHandedInAndGivenBack(unittest.TestCase):
    CALLS = [(0, [], []), (-1, [], []), (4, K4, following_of(K4, K4_PLANE)), (4, K4, following_of(K4, K4_NOT_PLANE)),
             (4, K4, list(range(12))), (4, K4, [HIGHEST] * 12), (2, [0, 1, 1, 0], [2, 3, 0, 1]),
             (6, flat(K33), following_of(flat(K33), in_order(K33))), (2, [0, 1], [0, 1])]
    ANSWERS = [[0], [-1], faces_by_definition(CALLS[2][2]), faces_by_definition(CALLS[3][2]), [-1], [-1], [-1],
               faces_by_definition(CALLS[7][2]), [1, 0, 0]]

    def test_lists_stay_as_they_are(self):
        for (n, edges, following), answer in zip(self.CALLS, self.ANSWERS):
            kept = KeptList(edges), KeptList(following)
            self.assertEqual(faces(n, *kept), answer)
            self.assertEqual((list(kept[0]), list(kept[1])), (edges, following))

    def test_same_answer_again(self):
        both = list(zip(self.CALLS, self.ANSWERS))
        for (n, edges, following), answer in both + both[::-1]:
            edges, following = list(edges), list(following)
            before = list(edges), list(following)
            self.assertEqual(faces(n, edges, following), answer)
            self.assertEqual(faces(n, edges, following), answer)
            self.assertEqual((edges, following), before)

    def test_same_list_for_both(self):
        both = KeptList([0, 1])
        self.assertEqual(faces(2, both, both), [1, 0, 0])

    def test_answer_is_a_list_of_its_own(self):
        for (n, edges, following), answer in zip(self.CALLS, self.ANSWERS):
            given = faces(n, edges, following)
            self.assertIs(type(given), list)
            self.assertEqual({type(number) for number in given}, {int})
            given[0] = 99
            given.append(99)
            self.assertEqual(faces(n, edges, following), answer)

    def test_nothing_is_printed(self):
        printed = io.StringIO()
        with contextlib.redirect_stdout(printed), contextlib.redirect_stderr(printed):
            for n, edges, following in self.CALLS:
                faces(n, edges, following)
        self.assertEqual(printed.getvalue(), "")


if __name__ == "__main__":
    unittest.main()
