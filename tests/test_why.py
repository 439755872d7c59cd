"""Promise 4: why."""

import contextlib
import io
import unittest

from drawings import neighbours
from graphs import HIGHEST, K33, LOWEST, KeptList, complete, flat, moved, no_graphs
from planedrawings.desk import why
from reasons import K5, PRISM, along, graphs_that_are_no_reason, is_reason_by_definition, part_variants, points_of
from reasons import points_with_ways, reasons, reasons_in_larger_graphs, simple_edges

# Each line of K5 divided three times: as many edges as are asked.
FORTY = along(K5, [3] * 10, 5)


class WhyCase(unittest.TestCase):
    def check_answer(self, answer, n, edges, part):
        with self.subTest(n=n, length=len(edges), edges=edges[:80], part=part[:60]):
            self.assertEqual(why(n, edges, part), [answer])

    def check_variants(self, answer, n, pairs, chosen):
        self.assertLessEqual(len(pairs), 40)
        for points, edges, part in part_variants(n, pairs, chosen):
            self.assertEqual(len(part), len(chosen))
            self.check_answer(answer, points, edges, part)


class TestReasons(WhyCase):
    def test_written_out(self):
        self.check_answer(1, 5, [0, 1, 0, 2, 0, 3, 0, 4, 1, 2, 1, 3, 1, 4, 2, 3, 2, 4, 3, 4], list(range(10)))
        self.check_answer(1, 6, [0, 3, 0, 4, 0, 5, 1, 3, 1, 4, 1, 5, 2, 3, 2, 4, 2, 5], [8, 0, 7, 1, 6, 2, 5, 3, 4])

    def test_whole_graphs(self):
        lengths = set()
        for n, pairs in reasons():
            lengths.add(len(pairs))
            self.check_variants(1, n, pairs, pairs)
            self.check_variants(1, n + 3, moved(pairs, 2), moved(pairs, 2))
        self.assertIn(40, lengths)

    def test_of_256_points(self):
        for pairs in (K5, K33, FORTY):
            far = moved(pairs, 256 - points_of(pairs))
            self.check_variants(1, 256, far, far)

    def test_within_larger_graphs(self):
        for n, pairs, chosen in reasons_in_larger_graphs():
            self.check_variants(1, n, pairs, chosen)


class TestNoReasons(WhyCase):
    def test_empty(self):
        for n, pairs in ((0, []), (1, []), (256, []), (2, complete(2)), (5, K5), (6, K33), (35, FORTY)):
            self.check_variants(0, n, pairs, [])

    def test_whole_graphs(self):
        for n, pairs in graphs_that_are_no_reason():
            self.check_variants(0, n, pairs, pairs)

    def test_of_256_points(self):
        for pairs in (K5[1:], K33 + [(0, 1)], FORTY[1:], PRISM):
            far = moved(pairs, 256 - points_of(pairs))
            self.check_variants(0, 256, far, far)

    def test_within_a_reason(self):
        for pairs in (K5, K33, along(K5, [1] * 10, 5), FORTY):
            for place in range(len(pairs)):
                self.check_variants(0, points_of(pairs), pairs, pairs[:place] + pairs[place + 1:])

    def test_an_edge_told_twice(self):
        for pairs in (K5, K33, along(K33, [1] * 9, 6), FORTY):
            n, edges, part = points_of(pairs), flat(pairs), list(range(len(pairs)))
            for edge in part:
                self.check_answer(0, n, edges, part + [edge])
                self.check_answer(0, n, edges, [edge] + part)
                self.check_answer(0, n, edges, part[:edge] + [part[edge - 1]] + part[edge + 1:])
            if len(part) <= 30:
                self.check_answer(0, n, edges, part + part)

    def test_no_number_of_an_edge(self):
        for pairs in (K5, K33, FORTY, K5 + moved(K33, 5)):
            n, edges, count = points_of(pairs), flat(pairs), len(pairs)
            part = list(range(count))
            for wrong in (-1, -count, -count - 1, count, count + 1, 2 * count, 1024, 2048, LOWEST, HIGHEST):
                self.check_answer(0, n, edges, [wrong])
                self.check_answer(0, n, edges, part + [wrong])
                self.check_answer(0, n, edges, [wrong] + part)
                self.check_answer(0, n, edges, part[:3] + [wrong] + part[4:])
                self.check_answer(0, n, edges, part[:-1] + [wrong])
            for edge in part:
                self.check_answer(0, n, edges, part[:edge] + [edge - count] + part[edge + 1:])
                self.check_answer(0, n, edges, part[:edge] + [edge + count] + part[edge + 1:])
        for wrong in (-1, 0, 1, LOWEST, HIGHEST):
            self.check_answer(0, 0, [], [wrong])
            self.check_answer(0, 256, [], [wrong])

    def test_sixty_numbers(self):
        for pairs in (K5, K33, FORTY, [(point, point + 1) for point in range(40)]):
            n, edges, count = points_of(pairs), flat(pairs), len(pairs)
            for part in (list(range(60)), [edge % count for edge in range(60)], list(range(count)) + [0] * (60 - count),
                         list(range(count)) + [HIGHEST] * (60 - count), [LOWEST] * 60, [HIGHEST] * 60, [-1] * 60,
                         [LOWEST] * (60 - count) + list(range(count))):
                self.assertEqual(len(part), 60)
                self.check_answer(0, n, edges, part)


class TestEveryWayToJoin(WhyCase):
    def check_all(self, count, degree, core, found):
        """Of all ways to join these points, only those that come out as the core are a reason."""
        good = 0
        for ways in points_with_ways(count, degree):
            pairs = simple_edges(ways, count)
            expected = 1 if self.is_core(ways, core) else 0
            good += expected
            if why(points_of(pairs), flat(pairs), list(range(len(pairs)))[::-1]) != [expected]:
                self.fail((expected, ways))
        self.assertEqual(good, found)

    def is_core(self, ways, core):
        if len(set(ways)) != len(ways) or any(a == b for a, b in ways):
            return False
        around = [set(neighbours(ways, point)) for point in range(points_of(ways))]
        # K3,3 is the one cubic graph on six points without triangles; K5 is the only graph of its degrees.
        return core == K5 or not any(around[a] & around[b] for a, b in ways)

    def test_five_points_with_four_ways_each(self):
        self.check_all(5, 4, K5, 1)

    def test_six_points_with_three_ways_each(self):
        self.check_all(6, 3, K33, 10)

    def test_other_counts(self):
        for count, degree in ((1, 4), (2, 3), (2, 4), (3, 4), (4, 3), (4, 4), (5, 2), (6, 2), (3, 6), (2, 5)):
            for ways in points_with_ways(count, degree):
                pairs = simple_edges(ways, count)
                self.check_answer(0, points_of(pairs), flat(pairs), list(range(len(pairs))))


class TestAgainstTheDefinition(WhyCase):
    def check_parts(self, n, pairs):
        found = 0
        for mask in range(1 << len(pairs)):
            part = [edge for edge in range(len(pairs)) if mask >> edge & 1]
            expected = 1 if is_reason_by_definition([pairs[edge] for edge in part]) else 0
            found += expected
            if why(n, flat(pairs), part) != [expected]:
                self.fail((n, pairs, part))
        return found

    def test_all_parts_of_small_graphs(self):
        self.assertEqual(self.check_parts(5, K5), 1)
        self.assertEqual(self.check_parts(6, K33 + [(0, 1), (3, 4)]), 1)
        self.assertEqual(self.check_parts(7, along(K33, [1] + [0] * 8, 6) + [(6, 1)]), 2)

    def test_reasons_and_no_reasons(self):
        for n, pairs in list(reasons()) + list(graphs_that_are_no_reason()):
            if len(pairs) <= 12:
                expected = 1 if is_reason_by_definition(pairs) else 0
                self.check_answer(expected, n, flat(pairs), list(range(len(pairs))))


class TestNoGraph(WhyCase):
    def test_no_graphs(self):
        for n, edges in no_graphs():
            count = len(edges) // 2
            for part in ([], [0], list(range(count)), list(range(count))[::-1], [-1], [count], [LOWEST, HIGHEST],
                         list(range(1024)), [0] * 1024, [LOWEST] * 1024, [HIGHEST] * 1024, list(range(60))):
                self.check_answer(-1, n, edges, part)

    def test_a_wrong_edge_beside_a_reason(self):
        for pairs in (K5, K33, FORTY):
            n, edges, part = points_of(pairs), flat(pairs), list(range(len(pairs)))
            again = list(pairs[3])
            for wrong in (again, again[::-1], [0, n], [n, 0], [-1, 0], [0, -1], [2, 2], [HIGHEST, 0], [0, LOWEST]):
                self.check_answer(-1, n, edges + wrong, part)
                self.check_answer(-1, n, wrong + edges, [edge + 1 for edge in part])
                self.check_answer(-1, n, edges + wrong, [])

    def test_just_within(self):
        self.check_answer(0, 256, [], [])
        self.check_answer(-1, 257, [], [])
        self.check_answer(-1, -1, [], [])
        self.check_answer(1, 5, flat(K5), list(range(10)))
        self.check_answer(-1, 4, flat(K5), list(range(10)))


class TestHandedInAndGivenBack(unittest.TestCase):
    CALLS = [(0, [], [], 0), (-1, [], [0], -1), (5, flat(K5), list(range(10)), 1), (5, flat(K5), list(range(9)), 0),
             (6, flat(K33), list(range(9))[::-1], 1), (6, flat(K33), [0] * 60, 0), (6, flat(K33), [HIGHEST], 0),
             (2, [0, 1, 1, 0], [0, 1], -1), (35, flat(FORTY), list(range(40))[::-1], 1),
             (6, flat(PRISM), list(range(9)), 0)]

    def test_lists_stay_as_they_are(self):
        for n, edges, part, answer in self.CALLS:
            kept = KeptList(edges), KeptList(part)
            self.assertEqual(why(n, *kept), [answer])
            self.assertEqual((list(kept[0]), list(kept[1])), (edges, part))

    def test_same_answer_again(self):
        for n, edges, part, answer in self.CALLS + self.CALLS[::-1]:
            edges, part = list(edges), list(part)
            before = list(edges), list(part)
            self.assertEqual(why(n, edges, part), [answer])
            self.assertEqual(why(n, edges, part), [answer])
            self.assertEqual((edges, part), before)

    def test_same_list_for_both(self):
        both = KeptList([0, 1])
        self.assertEqual(why(2, both, both), [0])

    def test_answer_is_a_list_of_its_own(self):
        for n, edges, part, answer in self.CALLS:
            given = why(n, edges, part)
            self.assertIs(type(given), list)
            self.assertIs(type(given[0]), int)
            given.append(99)
            self.assertEqual(why(n, edges, part), [answer])

    def test_nothing_is_printed(self):
        printed = io.StringIO()
        with contextlib.redirect_stdout(printed), contextlib.redirect_stderr(printed):
            for n, edges, part, answer in self.CALLS:
                why(n, edges, part)
        self.assertEqual(printed.getvalue(), "")


if __name__ == "__main__":
    unittest.main()
