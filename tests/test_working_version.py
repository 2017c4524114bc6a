"""The calls that change the working version, and get_feature and list_features."""

import unittest

from helper import GREATEST_SIGNED, LEAST_SIGNED, WORKING, StoreTest, ask, ask_last, coordinates

GREATEST_ATTRIBUTE = 1000000000
GREATEST_COORDINATE = 1000000
CREATED = [("create", 2)]
ONE_FEATURE = CREATED + [("put_feature", 7, [1, 2], [0, 0, 4, 0])]
FULL = [("create", 0)] + [("put_feature", number * 3, [], [number, 0]) for number in range(16)]
TWELVE_VERTICES = [("create", 0), ("put_feature", 7, [], coordinates(12))]
WRONG_ATTRIBUTES = (GREATEST_ATTRIBUTE + 1, -GREATEST_ATTRIBUTE - 1, GREATEST_SIGNED, LEAST_SIGNED)
WRONG_COORDINATES = (
    GREATEST_COORDINATE + 1, -GREATEST_COORDINATE - 1, 1000000000, -1000000000,
    1000000001, -1000000001, GREATEST_SIGNED, LEAST_SIGNED,
)


class Create(StoreTest):
    def test_answers_0_for_each_attribute_count(self):
        for count in range(9):
            self.assertEqual(ask([("create", count)]), [[0]])

    def test_store_is_empty_at_first(self):
        self.check_answers(
            (("create", 3), [0]),
            (("list_features", WORKING), [0]),
            (("list_features", 0), [0]),
            (("list_features", 1), [-2]),
            (("commit",), [-6]),
            (("discard",), [0]),
            (("create_branch", 0), [-17]),
            (("create_branch", 1), [0]),
            (("delete_branch", 0), [-16]),
            (("set_tag", 0, 0), [0]),
        )

    def test_too_many_attributes(self):
        for count in (9, 10, 65536, 4294967295):
            self.assertEqual(ask([("create", count)]), [[-22]])

    def test_failed_create_makes_no_store(self):
        self.assertEqual(ask([("create", 9), ("list_features", 0)]), [[-22], [-11]])

    def test_failed_create_leaves_the_store(self):
        before = ONE_FEATURE + [("commit",), ("create_branch", 3), ("set_attribute", 7, 0, 5), ("set_tag", 2, 1)]
        self.check_refused(before, ("create", 9), -22)

    def test_create_replaces_the_store(self):
        used = ONE_FEATURE + [
            ("commit",), ("create_branch", 3), ("switch_branch", 3), ("set_tag", 2, 1), ("remove_feature", 7),
        ]
        later = [
            ("list_features", WORKING), ("list_features", 0), ("list_features", 1), ("commit",), ("discard",),
            ("switch_branch", 3), ("delete_branch", 0), ("create_branch", 3), ("set_tag", 2, 1), ("set_tag", 2, 0),
            ("put_feature", 7, [1, 2], [0, 0]), ("put_feature", 7, [1], [0, 0]), ("commit",),
        ]
        fresh = [("create", 1)] + later
        self.assertEqual(ask(used + fresh)[len(used):], ask(fresh))
        self.assertEqual(
            ask(fresh),
            [[0], [0], [0], [-2], [-6], [0], [-2], [-16], [0], [-2], [0], [-22], [0], [1]],
        )


class PutFeature(StoreTest):
    def test_adds_and_replaces(self):
        self.check_answers(
            (("create", 2), [0]),
            (("put_feature", 7, [1, -2], [0, 0, 4, -3]), [0]),
            (("get_feature", WORKING, 7), [0, 2, 1, -2, 2, 0, 0, 4, -3]),
            (("put_feature", 7, [5, 6], [9, 8]), [1]),
            (("get_feature", WORKING, 7), [0, 2, 5, 6, 1, 9, 8]),
            (("list_features", WORKING), [1, 7]),
        )

    def test_replacing_with_the_same_answers_1(self):
        self.assertEqual(ask_last(ONE_FEATURE + [("put_feature", 7, [1, 2], [0, 0, 4, 0])]), [1])

    def test_removed_feature_is_new_again(self):
        again = [("remove_feature", 7), ("put_feature", 7, [1, 2], [0, 0])]
        self.assertEqual(ask_last(ONE_FEATURE + again), [0])

    def test_no_attributes_and_eight(self):
        for count in (0, 8):
            row = list(range(count))
            self.check_answers(
                (("create", count), [0]),
                (("put_feature", 1, row, [2, 3]), [0]),
                (("get_feature", WORKING, 1), [0, count] + row + [1, 2, 3]),
            )

    def test_ids_at_the_edges(self):
        self.check_answers(
            (("create", 0), [0]),
            (("put_feature", 65535, [], [1, 1]), [0]),
            (("put_feature", 0, [], [2, 2]), [0]),
            (("list_features", WORKING), [2, 0, 65535]),
            (("get_feature", WORKING, 65535), [0, 0, 1, 1, 1]),
            (("get_feature", WORKING, 0), [0, 0, 1, 2, 2]),
        )

    def test_ids_beyond_the_range(self):
        for number in (65536, 131071, 4294967295):
            self.check_refused(ONE_FEATURE, ("put_feature", number, [1, 2], [0, 0]), -22)

    def test_wrong_number_of_attributes(self):
        for row in ([], [1], [1, 2, 3], [0] * 30):
            self.check_refused(ONE_FEATURE, ("put_feature", 7, row, [0, 0]), -22)
            self.check_refused(ONE_FEATURE, ("put_feature", 8, row, [0, 0]), -22)
        self.check_refused([("create", 0)], ("put_feature", 8, [0], [0, 0]), -22)
        self.check_refused([("create", 8)], ("put_feature", 8, [0] * 9, [0, 0]), -22)
        self.check_refused([("create", 8)], ("put_feature", 8, [0] * 7, [0, 0]), -22)

    def test_attributes_at_the_edges(self):
        put = ("put_feature", 1, [GREATEST_ATTRIBUTE, -GREATEST_ATTRIBUTE], [0, 0])
        self.check_answers(
            (("create", 2), [0]),
            (put, [0]),
            (("get_feature", WORKING, 1), [0, 2, 1000000000, -1000000000, 1, 0, 0]),
        )

    def test_attributes_beyond_the_range(self):
        for value in WRONG_ATTRIBUTES:
            self.check_refused(ONE_FEATURE, ("put_feature", 7, [value, 0], [0, 0]), -22)
            self.check_refused(ONE_FEATURE, ("put_feature", 8, [0, value], [0, 0]), -22)

    def test_coordinates_at_the_edges(self):
        edge = [GREATEST_COORDINATE, -GREATEST_COORDINATE, -GREATEST_COORDINATE, GREATEST_COORDINATE]
        self.check_answers(
            (("create", 0), [0]),
            (("put_feature", 1, [], edge), [0]),
            (("get_feature", WORKING, 1), [0, 0, 2, 1000000, -1000000, -1000000, 1000000]),
        )

    def test_coordinates_beyond_the_range(self):
        for value in WRONG_COORDINATES:
            self.check_refused(ONE_FEATURE, ("put_feature", 7, [0, 0], [value, 0]), -22)
            self.check_refused(ONE_FEATURE, ("put_feature", 8, [0, 0], [0, 0, 0, value]), -22)

    def test_numbers_of_vertices_in_range(self):
        for count in range(1, 13):
            row = coordinates(count)
            self.check_answers(
                (("create", 0), [0]),
                (("put_feature", 1, [], row), [0]),
                (("get_feature", WORKING, 1), [0, 0, count] + row),
            )

    def test_numbers_of_vertices_beyond_the_range(self):
        for count in (0, 13, 14, 15):
            self.check_refused(ONE_FEATURE, ("put_feature", 7, [1, 2], coordinates(count)), -22)

    def test_odd_numbers_of_elements(self):
        for count in range(1, 30, 2):
            self.check_refused(ONE_FEATURE, ("put_feature", 7, [1, 2], [0] * count), -22)

    def test_sixteen_features_and_a_seventeenth(self):
        self.assertEqual(ask(FULL), [[0]] * 17)
        self.check_refused(FULL, ("put_feature", 1, [], [0, 0]), -28)
        self.check_refused(FULL, ("put_feature", 65535, [], [0, 0]), -28)

    def test_replacement_among_sixteen(self):
        self.assertEqual(ask_last(FULL + [("put_feature", 45, [], [5, 5])]), [1])
        self.assertEqual(ask_last(FULL + [("put_feature", 45, [], [5, 5]), ("get_feature", WORKING, 45)])[-2:], [5, 5])

    def test_room_again_after_a_removal(self):
        self.assertEqual(ask(FULL + [("remove_feature", 3), ("put_feature", 4, [], [0, 0])])[-2:], [[15], [0]])

    def test_range_comes_before_room(self):
        self.check_refused(FULL, ("put_feature", 65536, [], [0, 0]), -22)
        self.check_refused(FULL, ("put_feature", 1, [0], [0, 0]), -22)
        self.check_refused(FULL, ("put_feature", 1, [], []), -22)
        self.check_refused(FULL, ("put_feature", 1, [], [0, 0, 0]), -22)
        self.check_refused(FULL, ("put_feature", 1, [], [0, GREATEST_COORDINATE + 1]), -22)


class RemoveFeature(StoreTest):
    def test_answers_how_many_remain(self):
        self.check_answers(
            (("create", 0), [0]),
            (("put_feature", 3, [], [0, 0]), [0]),
            (("put_feature", 1, [], [0, 0]), [0]),
            (("put_feature", 2, [], [0, 0]), [0]),
            (("remove_feature", 2), [2]),
            (("list_features", WORKING), [2, 1, 3]),
            (("remove_feature", 3), [1]),
            (("remove_feature", 1), [0]),
            (("list_features", WORKING), [0]),
        )

    def test_no_such_feature(self):
        for number in (0, 8, 65536, 4294967295):
            self.check_refused(ONE_FEATURE, ("remove_feature", number), -2)
        self.check_refused(ONE_FEATURE + [("remove_feature", 7)], ("remove_feature", 7), -2)


class SetAttribute(StoreTest):
    def test_answers_the_previous_value(self):
        self.check_answers(
            (("create", 2), [0]),
            (("put_feature", 7, [1, 2], [0, 0]), [0]),
            (("set_attribute", 7, 1, -5), [0, 2]),
            (("set_attribute", 7, 1, 6), [0, -5]),
            (("set_attribute", 7, 0, 1), [0, 1]),
            (("get_feature", WORKING, 7), [0, 2, 1, 6, 1, 0, 0]),
        )

    def test_other_features_stay(self):
        more = [("put_feature", 8, [1, 2], [0, 0]), ("set_attribute", 8, 0, 3), ("get_feature", WORKING, 7)]
        self.assertEqual(ask_last(ONE_FEATURE + more), [0, 2, 1, 2, 2, 0, 0, 4, 0])

    def test_values_at_the_edges(self):
        for value in (GREATEST_ATTRIBUTE, -GREATEST_ATTRIBUTE):
            more = [("set_attribute", 7, 0, value), ("set_attribute", 7, 0, 0)]
            self.assertEqual(ask(ONE_FEATURE + more)[-2:], [[0, 1], [0, value]])

    def test_values_beyond_the_range(self):
        for value in WRONG_ATTRIBUTES:
            self.check_refused(ONE_FEATURE, ("set_attribute", 7, 0, value), -22)

    def test_eighth_attribute_and_a_ninth(self):
        before = [("create", 8), ("put_feature", 7, list(range(8)), [0, 0])]
        self.assertEqual(ask_last(before + [("set_attribute", 7, 7, 9)]), [0, 7])
        self.check_refused(before, ("set_attribute", 7, 8, 9), -2)

    def test_no_such_feature(self):
        for number in (0, 8, 65543, 4294967295):
            self.check_refused(ONE_FEATURE, ("set_attribute", number, 0, 5), -2)

    def test_no_such_attribute(self):
        for index in (2, 3, 4294967295):
            self.check_refused(ONE_FEATURE, ("set_attribute", 7, index, 5), -2)
        self.check_refused([("create", 0), ("put_feature", 7, [], [0, 0])], ("set_attribute", 7, 0, 5), -2)

    def test_order_of_the_errors(self):
        self.check_refused(ONE_FEATURE, ("set_attribute", 8, 0, GREATEST_SIGNED), -2)
        self.check_refused(ONE_FEATURE, ("set_attribute", 7, 2, LEAST_SIGNED), -2)


class MoveVertex(StoreTest):
    def test_answers_the_previous_coordinates(self):
        self.check_answers(
            (("create", 1), [0]),
            (("put_feature", 7, [1], [0, 0, 4, -3]), [0]),
            (("move_vertex", 7, 1, 5, 6), [0, 4, -3]),
            (("move_vertex", 7, 0, -1, -2), [0, 0, 0]),
            (("move_vertex", 7, 1, 5, 6), [0, 5, 6]),
            (("get_feature", WORKING, 7), [0, 1, 1, 2, -1, -2, 5, 6]),
        )

    def test_coordinates_at_the_edges(self):
        for value in (GREATEST_COORDINATE, -GREATEST_COORDINATE):
            more = [("move_vertex", 7, 0, value, -value), ("move_vertex", 7, 0, 0, 0)]
            self.assertEqual(ask(ONE_FEATURE + more)[-2:], [[0, 0, 0], [0, value, -value]])

    def test_coordinates_beyond_the_range(self):
        for value in WRONG_COORDINATES:
            self.check_refused(ONE_FEATURE, ("move_vertex", 7, 0, value, 0), -22)
            self.check_refused(ONE_FEATURE, ("move_vertex", 7, 1, 0, value), -22)

    def test_no_such_feature(self):
        for number in (0, 8, 65543, 4294967295):
            self.check_refused(ONE_FEATURE, ("move_vertex", number, 0, 5, 5), -2)

    def test_no_such_vertex(self):
        for index in (2, 3, 4294967295):
            self.check_refused(ONE_FEATURE, ("move_vertex", 7, index, 5, 5), -2)
        self.assertEqual(ask_last(TWELVE_VERTICES + [("move_vertex", 7, 11, 0, 0)]), [0, 11, -11])
        self.check_refused(TWELVE_VERTICES, ("move_vertex", 7, 12, 0, 0), -2)

    def test_order_of_the_errors(self):
        self.check_refused(ONE_FEATURE, ("move_vertex", 8, 0, GREATEST_SIGNED, 0), -2)
        self.check_refused(ONE_FEATURE, ("move_vertex", 7, 2, 0, LEAST_SIGNED), -2)


class InsertVertex(StoreTest):
    def test_inserts_at_each_place(self):
        self.check_answers(
            (("create", 0), [0]),
            (("put_feature", 7, [], [1, 1, 2, 2]), [0]),
            (("insert_vertex", 7, 2, 3, 3), [3]),
            (("insert_vertex", 7, 0, 0, 0), [4]),
            (("insert_vertex", 7, 2, 9, -9), [5]),
            (("get_feature", WORKING, 7), [0, 0, 5, 0, 0, 1, 1, 9, -9, 2, 2, 3, 3]),
        )

    def test_coordinates_at_the_edges(self):
        for value in (GREATEST_COORDINATE, -GREATEST_COORDINATE):
            more = [("insert_vertex", 7, 0, value, -value), ("move_vertex", 7, 0, 0, 0)]
            self.assertEqual(ask(ONE_FEATURE + more)[-2:], [[3], [0, value, -value]])

    def test_coordinates_beyond_the_range(self):
        for value in WRONG_COORDINATES:
            self.check_refused(ONE_FEATURE, ("insert_vertex", 7, 0, value, 0), -22)
            self.check_refused(ONE_FEATURE, ("insert_vertex", 7, 2, 0, value), -22)

    def test_twelfth_vertex_and_a_thirteenth(self):
        before = [("create", 0), ("put_feature", 7, [], coordinates(11))]
        self.assertEqual(ask_last(before + [("insert_vertex", 7, 11, 5, 5)]), [12])
        for index in (0, 6, 12):
            self.check_refused(TWELVE_VERTICES, ("insert_vertex", 7, index, 5, 5), -28)

    def test_no_such_feature(self):
        for number in (0, 8, 65543, 4294967295):
            self.check_refused(ONE_FEATURE, ("insert_vertex", number, 0, 5, 5), -2)

    def test_index_beyond_the_end(self):
        for index in (3, 4, 4294967295):
            self.check_refused(ONE_FEATURE, ("insert_vertex", 7, index, 5, 5), -2)

    def test_order_of_the_errors(self):
        self.check_refused(ONE_FEATURE, ("insert_vertex", 8, 0, GREATEST_SIGNED, 0), -2)
        self.check_refused(ONE_FEATURE, ("insert_vertex", 7, 3, 0, LEAST_SIGNED), -2)
        self.check_refused(TWELVE_VERTICES, ("insert_vertex", 7, 13, 0, 0), -2)
        self.check_refused(TWELVE_VERTICES, ("insert_vertex", 7, 12, 0, GREATEST_COORDINATE + 1), -22)


class RemoveVertex(StoreTest):
    def test_answers_how_many_remain(self):
        self.check_answers(
            (("create", 0), [0]),
            (("put_feature", 7, [], coordinates(4)), [0]),
            (("remove_vertex", 7, 3), [3]),
            (("remove_vertex", 7, 1), [2]),
            (("get_feature", WORKING, 7), [0, 0, 2, 0, 0, 2, -2]),
            (("remove_vertex", 7, 0), [1]),
            (("get_feature", WORKING, 7), [0, 0, 1, 2, -2]),
        )

    def test_no_such_feature(self):
        for number in (0, 8, 65543, 4294967295):
            self.check_refused(ONE_FEATURE, ("remove_vertex", number, 0), -2)

    def test_no_such_vertex(self):
        for index in (2, 3, 4294967295):
            self.check_refused(ONE_FEATURE, ("remove_vertex", 7, index), -2)
        self.assertEqual(ask_last(TWELVE_VERTICES + [("remove_vertex", 7, 11)]), [11])
        self.check_refused(TWELVE_VERTICES, ("remove_vertex", 7, 12), -2)

    def test_only_vertex(self):
        self.check_refused([("create", 0), ("put_feature", 7, [], [1, 2])], ("remove_vertex", 7, 0), -33)

    def test_order_of_the_errors(self):
        before = [("create", 0), ("put_feature", 7, [], [1, 2])]
        self.check_refused(before, ("remove_vertex", 7, 1), -2)
        self.check_refused(before, ("remove_vertex", 8, 0), -2)


class GetFeatureAndListFeatures(StoreTest):
    def test_working_version_and_commits(self):
        self.check_answers(
            (("create", 1), [0]),
            (("put_feature", 9, [1], [0, 0]), [0]),
            (("commit",), [1]),
            (("put_feature", 4, [2], [5, 5, 6, 6]), [0]),
            (("set_attribute", 9, 0, 3), [0, 1]),
            (("get_feature", 1, 9), [0, 1, 1, 1, 0, 0]),
            (("get_feature", WORKING, 9), [0, 1, 3, 1, 0, 0]),
            (("get_feature", 1, 4), [-2]),
            (("get_feature", WORKING, 4), [0, 1, 2, 2, 5, 5, 6, 6]),
            (("list_features", 0), [0]),
            (("list_features", 1), [1, 9]),
            (("list_features", WORKING), [2, 4, 9]),
        )

    def test_no_such_version(self):
        for number in (1, 2, 40, 4294967294):
            self.check_refused(ONE_FEATURE, ("get_feature", number, 7), -2)
            self.check_refused(ONE_FEATURE, ("list_features", number), -2)

    def test_no_such_feature(self):
        for number in (0, 8, 65543, 4294967295):
            self.check_refused(ONE_FEATURE, ("get_feature", WORKING, number), -2)
            self.check_refused(ONE_FEATURE, ("get_feature", 0, number), -2)

    def test_ids_ascend_whatever_order_they_came_in(self):
        numbers = [300, 2, 65535, 10, 0, 9, 256, 255]
        puts = [("put_feature", number, [], [0, 0]) for number in numbers]
        before = [("create", 0)] + puts + [("remove_feature", 10), ("put_feature", 10, [], [0, 0]), ("commit",)]
        listed = [len(numbers)] + sorted(numbers)
        self.assertEqual(ask_last(before + [("list_features", WORKING)]), listed)
        self.assertEqual(ask_last(before + [("list_features", 1)]), listed)

    def test_largest_feature(self):
        row = [GREATEST_ATTRIBUTE] * 8
        before = [("create", 8), ("put_feature", 7, row, coordinates(12))]
        self.assertEqual(ask_last(before + [("get_feature", WORKING, 7)]), [0, 8] + row + [12] + coordinates(12))

    def test_reading_changes_nothing(self):
        before = ONE_FEATURE + [("commit",), ("set_attribute", 7, 0, 9)]
        reads = [("get_feature", WORKING, 7), ("get_feature", 1, 7), ("list_features", 1), ("list_features", WORKING)]
        later = [("get_feature", WORKING, 7), ("commit",), ("discard",)]
        self.assertEqual(ask(before + reads + later)[-3:], ask(before + later)[-3:])


if __name__ == "__main__":
    unittest.main()
