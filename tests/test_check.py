"""Promise 2: check."""

import contextlib
import io
import unittest
from itertools import product

from drawings import BUSH, CUBE, CUBE_PLACES, K4_NOT_PLANE, K4_PLANE, K5, PATH, drawing_variants, drawings_not_plane
from drawings import following_of, in_order, no_drawings, plane_drawings, straight, whatever
from graphs import HIGHEST, K33, LOWEST, KeptList, all_drawings, complete, divided, flat, is_plane_by_definition
from graphs import moved, no_graphs, without
from planedrawings.desk import check


class CheckCase(unittest.TestCase):
    def check_answer(self, answer, n, edges, following):
        with self.subTest(n=n, length=len(edges), edges=edges[:24], following=following[:24]):
            self.assertEqual(check(n, edges, following), [answer])


class TestPlane(CheckCase):
    def test_no_points_and_no_edges(self):
        self.check_answer(1, 0, [], [])

    def test_written_out(self):
        self.check_answer(1, 2, [0, 1], [0, 1])
        self.check_answer(1, 3, [0, 1, 1, 2, 2, 0], [5, 2, 1, 4, 3, 0])
        self.check_answer(1, 4, [0, 1, 0, 2, 0, 3], [2, 1, 4, 3, 0, 5])
        self.check_answer(1, 4, [0, 1, 0, 2, 0, 3, 1, 2, 1, 3, 2, 3], [4, 6, 0, 10, 2, 9, 8, 3, 1, 11, 7, 5])

    def test_plane_drawings(self):
        for n, pairs, rounds in plane_drawings():
            self.assertLessEqual(len(pairs), 12)
            for points, edges, following in drawing_variants(n, pairs, rounds):
                self.check_answer(1, points, edges, following)

    def test_every_drawing_of_a_tree(self):
        for pairs in (PATH, BUSH[:7], [(0, point) for point in range(1, 6)]):
            for following in all_drawings(flat(pairs)):
                self.check_answer(1, 13, flat(pairs), following)


class TestNotPlane(CheckCase):
    def test_written_out(self):
        self.check_answer(0, 4, [0, 1, 0, 2, 0, 3, 1, 2, 1, 3, 2, 3], [2, 6, 4, 10, 0, 9, 8, 3, 1, 11, 7, 5])

    def test_drawings_that_are_not_plane(self):
        for n, pairs, rounds in drawings_not_plane():
            self.assertLessEqual(len(pairs), 12)
            for points, edges, following in drawing_variants(n, pairs, rounds):
                self.check_answer(0, points, edges, following)

    def test_no_drawing_of_a_reason_is_plane(self):
        for following in all_drawings(flat(K33)):
            self.check_answer(0, 6, flat(K33), following)
        for following in list(all_drawings(flat(K5)))[::7]:
            self.check_answer(0, 5, flat(K5), following)
        twelve = divided(K33, [0, 4, 8], 6)
        for following in all_drawings(flat(twelve)):
            self.check_answer(0, 9, flat(twelve), following)


class TestNoDrawing(CheckCase):
    def test_no_drawings(self):
        for n, edges, following in no_drawings():
            self.check_answer(-1, n, edges, following)


class TestEveryListOfNumbers(CheckCase):
    def check_all(self, n, pairs, numbers):
        edges = flat(pairs)
        expected = {tuple(following): 1 if is_plane_by_definition(n, edges, following) else 0
                    for following in all_drawings(edges)}
        for following in product(numbers, repeat=len(edges)):
            if check(n, edges, list(following)) != [expected.get(following, -1)]:
                self.fail((n, edges, following, check(n, edges, list(following))))

    def test_small_graphs(self):
        self.check_all(2, [(0, 1)], range(-4, 5))
        self.check_all(3, [(1, 2)], range(-4, 5))
        self.check_all(3, [(0, 1), (2, 1)], range(-5, 6))
        self.check_all(5, [(4, 1), (2, 3)], range(-5, 6))
        self.check_all(3, complete(3), range(6))
        self.check_all(4, [(0, 3), (3, 1), (2, 3)], range(6))

    def test_every_drawing_of_small_graphs(self):
        graphs = [(4, complete(4)), (5, without(K5, (1, 3))), (7, without(K33, (2, 4))), (6, K33 + [(0, 1)]),
                  (8, complete(4) + moved(complete(3), 5)), (8, CUBE), (256, moved(complete(4), 250))]
        answers = set()
        for n, pairs in graphs:
            edges = flat(pairs)
            for following in all_drawings(edges):
                expected = 1 if is_plane_by_definition(n, edges, following) else 0
                answers.add(expected)
                if check(n, edges, following) != [expected]:
                    self.fail((n, edges, following))
        self.assertEqual(answers, {0, 1})


class TestNoGraph(CheckCase):
    def test_no_graphs(self):
        for n, edges in no_graphs():
            for following in whatever(edges):
                self.check_answer(-1, n, edges, following)

    def test_a_wrong_edge_beside_a_drawing(self):
        edges = flat(complete(4))
        following = following_of(edges, K4_PLANE)
        for wrong in ([0, 4], [4, 0], [-1, 0], [2, -1], [2, 2], [1, 3], [3, 1], [HIGHEST, 0], [0, LOWEST]):
            for rest in ([12, 13], [0, 1], [-1, 14], [LOWEST, HIGHEST]):
                self.check_answer(-1, 4, edges + wrong, following + rest)

    def test_just_within(self):
        self.check_answer(1, 256, [255, 0], [0, 1])
        self.check_answer(-1, 255, [255, 0], [0, 1])
        self.check_answer(1, 256, [], [])
        self.check_answer(-1, 257, [], [])


class TestHandedInAndGivenBack(unittest.TestCase):
    K4 = flat(complete(4))
    CUBE_DRAWN = following_of(flat(CUBE), straight(CUBE, CUBE_PLACES))
    CALLS = [(0, [], [], 1), (-1, [], [], -1), (4, K4, following_of(K4, K4_PLANE), 1),
             (4, K4, following_of(K4, K4_NOT_PLANE), 0), (4, K4, list(range(12)), -1), (4, K4, [HIGHEST] * 12, -1),
             (2, [0, 1, 1, 0], [2, 3, 0, 1], -1), (8, flat(CUBE), CUBE_DRAWN, 1),
             (5, flat(K5), following_of(flat(K5), in_order(K5)), 0)]

    def test_lists_stay_as_they_are(self):
        for n, edges, following, answer in self.CALLS:
            kept = KeptList(edges), KeptList(following)
            self.assertEqual(check(n, *kept), [answer])
            self.assertEqual((list(kept[0]), list(kept[1])), (edges, following))

    def test_same_answer_again(self):
        for n, edges, following, answer in self.CALLS + self.CALLS[::-1]:
            edges, following = list(edges), list(following)
            before = list(edges), list(following)
            self.assertEqual(check(n, edges, following), [answer])
            self.assertEqual(check(n, edges, following), [answer])
            self.assertEqual((edges, following), before)

    def test_same_list_for_both(self):
        both = KeptList([0, 1])
        self.assertEqual(check(2, both, both), [1])

    def test_answer_is_a_list_of_its_own(self):
        for n, edges, following, answer in self.CALLS:
            given = check(n, edges, following)
            self.assertIs(type(given), list)
            self.assertIs(type(given[0]), int)
            given.append(99)
            self.assertEqual(check(n, edges, following), [answer])

    def test_nothing_is_printed(self):
        printed = io.StringIO()
        with contextlib.redirect_stdout(printed), contextlib.redirect_stderr(printed):
            for n, edges, following, answer in self.CALLS:
                check(n, edges, following)
        self.assertEqual(printed.getvalue(), "")


if __name__ == "__main__":
    unittest.main()
