"""match_features: which features of two versions correspond, whatever their ids are."""

import random
import unittest

from helper import GREATEST_NAME, WORKING, StoreTest, ask, ask_last, change_between, coordinates
from helper import correspondence_by_hand, match_by_hand

KEPT, MOVED, RESHAPED = 0, 1, 2
ANY = 4294967295
SQUARE = [0, 0, 4, 0, 4, 4, 0, 4]


def shapes(lists):
    """A version without attributes, {id: ([], coordinates)}, of {id: coordinates}."""
    return {number: ([], row) for number, row in lists.items()}


def two_commits(first, second):
    """A session without attributes whose commits 2 and 3 have these lists of vertices, {id: coordinates}.

    Commit 1 has another version, so that commit 2 may have an empty one; there is no commit 3 if both are alike.
    """
    other = {65535: [9, 9]}
    calls = [("create", 0), *change_between({}, shapes(other)), ("commit",)]
    calls += [*change_between(shapes(other), shapes(first)), ("commit",)]
    return calls + [*change_between(shapes(first), shapes(second)), ("commit",)]


def match(first, second, tolerance):
    return ask_last(two_commits(first, second) + [("match_features", 2, 3 if first != second else 2, tolerance)])


class Ways(StoreTest):
    def check_pair(self, first, second, way, distance):
        """The pair of both lists, either way round, with any tolerance that is great enough, and none that isn't."""
        root = next(number for number in range(100) if number**2 >= distance)
        for one, other in ((first, second), (second, first)):
            found = [1, 3, 8, way, distance, 0, 0]
            self.assertEqual(match({3: one}, {8: other}, ANY), found)
            self.assertEqual(match({3: one}, {8: other}, root), found)
            if root:
                self.assertEqual(match({3: one}, {8: other}, root - 1), [0, 1, 3, 1, 8])

    def test_kept(self):
        for row in (SQUARE, [5, -5], coordinates(12), [1, 1, 1, 1]):
            self.check_pair(row, row, KEPT, 0)

    def test_moved(self):
        self.check_pair([0, 0], [3, 4], MOVED, 25)
        self.check_pair([0, 0], [0, -1], MOVED, 1)
        self.check_pair(SQUARE, [value + 7 for value in SQUARE], MOVED, 98)
        self.check_pair(SQUARE, [1, 0, 5, 0, 5, 4, 1, 4], MOVED, 1)
        self.check_pair([1, 1, 1, 1], [2, 1, 2, 1], MOVED, 1)

    def test_reshaped_lists_of_one_length(self):
        self.check_pair(SQUARE, SQUARE[:6] + [0, 7], RESHAPED, 9)
        self.check_pair([0, 0, 10, 0], [0, 0, 10, 3], RESHAPED, 9)
        self.check_pair([0, 0, 10, 0], [0, 1, 10, 2], RESHAPED, 4)

    def test_reshaped_lists_of_other_lengths(self):
        self.check_pair([0, 0], [0, 0, 10, 0], RESHAPED, 100)
        self.check_pair(SQUARE, SQUARE + [0, 0], RESHAPED, 0)
        self.check_pair(SQUARE, SQUARE + [2, 2], RESHAPED, 8)
        self.check_pair(SQUARE, SQUARE[:6], RESHAPED, 16)
        self.check_pair([0, 0], coordinates(12), RESHAPED, 242)

    def test_reshaped_with_distance_0(self):
        self.check_pair([0, 0, 4, 0], [4, 0, 0, 0], RESHAPED, 0)
        self.check_pair([1, 1], [1, 1, 1, 1], RESHAPED, 0)
        self.check_pair(SQUARE, SQUARE[2:] + SQUARE[:2], RESHAPED, 0)

    def test_greatest_of_the_nearest_in_both_directions(self):
        # From the first list no vertex is farther than 1 from the second one, from the second one it's 5 for (9, 4).
        self.check_pair([0, 0, 6, 0], [0, 1, 6, 0, 9, 4], RESHAPED, 25)
        self.check_pair([0, 0, 6, 0, 9, 4], [0, 1, 6, 0], RESHAPED, 25)
        # Each vertex is taken to the nearest one, whatever stands at its place.
        self.check_pair([0, 0, 100, 0, 200, 0], [200, 1, 0, 2, 100, 3], RESHAPED, 9)

    def test_attributes_are_no_matter(self):
        calls = [("create", 2), ("put_feature", 1, [1, 2], SQUARE), ("commit",), ("remove_feature", 1)]
        calls += [("put_feature", 2, [3, 4], SQUARE), ("match_features", 1, WORKING, 0)]
        self.assertEqual(ask_last(calls), [1, 1, 2, 0, 0, 0, 0])


class Order(StoreTest):
    def test_ways_before_distances(self):
        # Feature 1 is reshaped into 5 with distance 0, moved into 6 with 10000, and kept as 7.
        row, turned, moved = [0, 0, 4, 0], [4, 0, 0, 0], [100, 0, 104, 0]
        self.assertEqual(match({1: row}, {5: turned, 6: moved, 7: row}, ANY), [1, 1, 7, KEPT, 0, 0, 2, 5, 6])
        self.assertEqual(match({1: row}, {5: turned, 6: moved}, ANY), [1, 1, 6, MOVED, 10000, 0, 1, 5])
        self.assertEqual(match({1: row}, {5: turned, 6: moved}, 100), [1, 1, 6, MOVED, 10000, 0, 1, 5])
        self.assertEqual(match({1: row}, {5: turned, 6: moved}, 99), [1, 1, 5, RESHAPED, 0, 0, 1, 6])

    def test_distances_before_ids(self):
        self.assertEqual(match({1: [0, 0], 2: [10, 0]}, {3: [9, 0], 4: [3, 0]}, ANY), [
            2, 2, 3, MOVED, 1, 1, 4, MOVED, 9, 0, 0,
        ])

    def test_first_ids_break_ties(self):
        self.assertEqual(match({6: [2, 0], 5: [-2, 0]}, {3: [0, 0]}, ANY), [1, 5, 3, MOVED, 4, 1, 6, 0])
        self.assertEqual(match({6: [0, 0], 5: [0, 0]}, {9: [0, 0]}, 0), [1, 5, 9, KEPT, 0, 1, 6, 0])

    def test_second_ids_break_ties(self):
        self.assertEqual(match({3: [0, 0]}, {6: [2, 0], 5: [-2, 0]}, ANY), [1, 3, 5, MOVED, 4, 0, 1, 6])
        self.assertEqual(match({9: [0, 0]}, {6: [0, 0], 5: [0, 0]}, 0), [1, 9, 5, KEPT, 0, 0, 1, 6])

    def test_first_ids_come_before_second_ids(self):
        # All four pairs have the distance 25: (1, 9) comes ahead of (2, 8), but behind (1, 8).
        first, second = {1: [0, 0], 2: [0, 0]}, {8: [3, 4], 9: [5, 0]}
        self.assertEqual(match(first, second, 5), [2, 1, 8, MOVED, 25, 2, 9, MOVED, 25, 0, 0])
        self.assertEqual(match(second, first, 5), [2, 8, 1, MOVED, 25, 9, 2, MOVED, 25, 0, 0])

    def test_ids_of_several_digits(self):
        first = {number: [0, 0] for number in (10, 9, 100, 65535)}
        second = {number: [0, 0] for number in (1000, 200, 65534, 30)}
        self.assertEqual(match(first, second, 0), [
            4, 9, 30, 0, 0, 10, 200, 0, 0, 100, 1000, 0, 0, 65535, 65534, 0, 0, 0, 0,
        ])

    def test_taken_in_order_though_another_choice_would_pair_more(self):
        # 2 and 3 are nearest and are taken; 1 could only have had 3, and 4 only 2.
        found = match({1: [0, 0], 2: [3, 0]}, {3: [2, 0], 4: [6, 0]}, 3)
        self.assertEqual(found, [1, 2, 3, MOVED, 1, 1, 1, 1, 4])

    def test_reshaped_ones_by_distance(self):
        first = {1: [0, 0, 10, 0], 2: [0, 0, 10, 1]}
        second = {3: [0, 0, 10, 3], 4: [0, 0, 10, 2]}
        self.assertEqual(match(first, second, ANY), [2, 2, 4, RESHAPED, 1, 1, 3, RESHAPED, 9, 0, 0])

    def test_gone_and_new_ones_by_ascending_id(self):
        first = {number: [number, 0] for number in (9, 100, 3, 20)}
        second = {number: [number, 500] for number in (101, 8, 30, 4)}
        self.assertEqual(match({**first, 1: SQUARE}, {**second, 50: SQUARE}, 7), [
            1, 1, 50, KEPT, 0, 4, 3, 9, 20, 100, 4, 4, 8, 30, 101,
        ])


class Tolerance(StoreTest):
    def test_at_and_just_below_a_distance(self):
        moved, none = [1, 1, 2, MOVED, 50, 0, 0], [0, 1, 1, 1, 2]
        for tolerance, found in ((0, none), (7, none), (8, moved), (9, moved), (65536, moved), (ANY, moved)):
            self.assertEqual(match({1: [0, 0]}, {2: [5, 5]}, tolerance), found)
        moved = [1, 1, 2, MOVED, 25, 0, 0]
        for tolerance, found in ((0, none), (4, none), (5, moved), (6, moved), (2147483648, moved), (ANY, moved)):
            self.assertEqual(match({1: [0, 0]}, {2: [3, 4]}, tolerance), found)

    def test_0(self):
        self.assertEqual(match({1: SQUARE, 2: [0, 0]}, {3: SQUARE, 4: [0, 1]}, 0), [1, 1, 3, 0, 0, 1, 2, 1, 4])
        self.assertEqual(match({1: [0, 0, 4, 0]}, {2: [4, 0, 0, 0]}, 0), [1, 1, 2, RESHAPED, 0, 0, 0])

    def test_farthest_coordinates(self):
        # 2828427 squared is just below 8000000000000, and 2828428 squared just above.
        moved, none = [1, 1, 2, MOVED, 8000000000000, 0, 0], [0, 1, 1, 1, 2]
        first, second = [-1000000, -1000000], [1000000, 1000000]
        for tolerance, found in ((1000000, none), (2828427, none), (2828428, moved), (ANY, moved)):
            self.assertEqual(match({1: first}, {2: second}, tolerance), found)
            self.assertEqual(match({1: second}, {2: first}, tolerance), found)
        reshaped = [1, 1, 2, RESHAPED, 8000000000000, 0, 0]
        for tolerance, found in ((2828427, none), (2828428, reshaped), (ANY, reshaped)):
            self.assertEqual(match({1: first}, {2: first + second}, tolerance), found)
            self.assertEqual(match({1: first + second}, {2: second}, tolerance), found)

    def test_farthest_along_one_axis(self):
        moved, none = [1, 1, 2, MOVED, 4000000000000, 0, 0], [0, 1, 1, 1, 2]
        for tolerance, found in ((1999999, none), (2000000, moved)):
            self.assertEqual(match({1: [1000000, 5]}, {2: [-1000000, 5]}, tolerance), found)
            self.assertEqual(match({1: [5, -1000000]}, {2: [5, 1000000]}, tolerance), found)

    def test_distance_between_two_squares_is_reached_by_none(self):
        self.assertEqual(match({1: [0, 0]}, {2: [1, 1]}, 1), [0, 1, 1, 1, 2])
        self.assertEqual(match({1: [0, 0]}, {2: [1, 1]}, 2), [1, 1, 2, MOVED, 2, 0, 0])


class Versions(StoreTest):
    def test_without_features(self):
        self.assertEqual(ask_last([("create", 0), ("match_features", 0, WORKING, ANY)]), [0, 0, 0])
        self.assertEqual(match({}, {5: [0, 0], 3: SQUARE}, ANY), [0, 0, 2, 3, 5])
        self.assertEqual(match({5: [0, 0], 3: SQUARE}, {}, ANY), [0, 2, 3, 5, 0])

    def test_working_version_on_either_side(self):
        calls = [("create", 0), ("put_feature", 1, [], [0, 0]), ("commit",), ("remove_feature", 1)]
        calls += [("put_feature", 2, [], [0, 3]), ("put_feature", 0, [], SQUARE)]
        pairs = ((1, WORKING), (WORKING, 1), (WORKING, 0), (WORKING, WORKING))
        asked = [("match_features", *pair, 3) for pair in pairs]
        self.assertEqual(ask(calls + asked)[-4:], [
            [1, 1, 2, MOVED, 9, 0, 1, 0], [1, 2, 1, MOVED, 9, 1, 0, 0], [0, 2, 0, 2, 0],
            [2, 0, 0, KEPT, 0, 2, 2, KEPT, 0, 0, 0],
        ])

    def test_with_itself(self):
        version = {number: [number % 3, 0] for number in range(6)}
        pairs = [value for number in range(6) for value in (number, number, KEPT, 0)]
        self.assertEqual(match(version, version, ANY), [6] + pairs + [0, 0])

    def test_16_features_of_12_vertices(self):
        first = {number: [value + number for value in coordinates(12)] for number in range(16)}
        second = {65520 - number: [value + number for value in coordinates(12)] for number in range(16)}
        pairs = [value for number in range(16) for value in (number, 65520 - number, KEPT, 0)]
        self.assertEqual(match(first, second, ANY), [16] + pairs + [0, 0])

    def test_no_such_version(self):
        before = two_commits({1: [0, 0]}, {2: [1, 1]}) + [("remove_feature", 2)]
        for number in (4, 5, 40, GREATEST_NAME - 1):
            for asked in ((number, 1), (1, number), (number, WORKING), (number, number)):
                self.check_refused(before, ("match_features", *asked, 9), -2)

    def test_changes_nothing(self):
        before = two_commits({1: [0, 0]}, {2: [1, 1]}) + [("remove_feature", 2)]
        self.check_no_change(before, [("match_features", 1, 2, 9), ("match_features", WORKING, 2, ANY)])


class RandomVersions(StoreTest):
    def random_version(self, source):
        version = {}
        for number in source.sample(range(30), source.randrange(9)):
            version[number] = [source.randrange(4) for at in range(2 * source.choice((1, 1, 2, 2, 3)))]
        return version

    def test_as_the_document_tells_it(self):
        ways = set()
        for seed in range(300):
            source = random.Random(seed)
            first, second = self.random_version(source), self.random_version(source)
            tolerance = source.choice((0, 1, 2, 3, 4, ANY))
            found = match(first, second, tolerance)
            self.assertEqual(found, match_by_hand(shapes(first), shapes(second), tolerance))
            ways |= set(found[3:1 + 4 * found[0]:4])
        self.assertEqual(ways, {KEPT, MOVED, RESHAPED})

    def test_each_feature_once_and_no_possible_pair_left(self):
        for seed in range(300):
            source = random.Random(seed)
            first, second = self.random_version(source), self.random_version(source)
            tolerance = source.choice((0, 1, 2, 3))
            found = match(first, second, tolerance)
            end = 1 + 4 * found[0]
            gone_end = end + 1 + found[end]
            gone, new = found[end + 1:gone_end], found[gone_end + 1:]
            self.assertEqual(sorted(found[1:end:4] + gone), sorted(first))
            self.assertEqual(sorted(found[2:end:4] + new), sorted(second))
            self.assertEqual(len(new), found[gone_end])
            for one in gone:
                for other in new:
                    self.assertGreater(correspondence_by_hand(first[one], second[other])[1], tolerance**2)


if __name__ == "__main__":
    unittest.main()
