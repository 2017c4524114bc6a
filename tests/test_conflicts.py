"""The three-way merge, asked by merge and merge_with: what is merged, each kind of conflict, and how it's decided."""

import random
import unittest

from helper import BASE, MERGED, OURS, THEIRS, StoreTest, ask, ask_last, exchange, read_version, three_versions

SQUARE = [0, 0, 4, 0, 4, 4, 0, 4]
EDGE_IDS = [0, 1, 2, 65535]


class ThreeWay(StoreTest):
    """Merges of versions, {id: (attributes, coordinates)}, with two attributes a feature."""

    def check_merged(self, base, ours, theirs, merged):
        """No conflict, whichever side is ours, and however it's asked."""
        calls = three_versions(2, base, ours, theirs)
        for before, branch in ((calls, 9), (exchange(calls), 0)):
            for call in (("merge", branch), ("merge_with", branch, 0), ("merge_with", branch, 1)):
                self.assertEqual(ask_last(before + [call]), [2, MERGED, 0])
                self.assertEqual(read_version(before + [call], MERGED, [*range(20), 65535]), merged)

    def check_conflicts(self, base, ours, theirs, conflicts, by_ours, by_theirs):
        """The conflicts, (id, kind, index), whichever side is ours, and what becomes of them for either side."""
        calls = three_versions(2, base, ours, theirs)
        listed = [-35, len(conflicts)] + [number for conflict in conflicts for number in conflict]
        for before, branch, results in ((calls, 9, (by_ours, by_theirs)), (exchange(calls), 0, (by_theirs, by_ours))):
            self.check_refused_with(before, ("merge", branch), listed)
            for side, result in enumerate(results):
                call = ("merge_with", branch, side)
                self.assertEqual(ask_last(before + [call]), [2, MERGED, len(conflicts)])
                self.assertEqual(read_version(before + [call], MERGED, [*range(20), 65535]), result)


class WithoutConflict(ThreeWay):
    def test_one_side_like_the_base(self):
        base = {1: ([1, 1], [0, 0]), 2: ([2, 2], SQUARE), 3: ([3, 3], [0, 0])}
        other = {2: ([2, 9], SQUARE[:6]), 3: ([3, 3], [0, 0]), 4: ([4, 4], [1, 1])}
        self.check_merged(base, base, other, other)
        self.check_merged(base, other, base, other)
        self.check_merged(base, base, {}, {})
        self.check_merged({}, {}, base, base)

    def test_both_sides_like_the_base(self):
        base = {1: ([1, 1], [0, 0])}
        self.check_merged(base, base, base, base)
        self.check_merged({}, {}, {}, {})

    def test_both_sides_alike(self):
        other = {2: ([2, 9], [5, 5])}
        self.check_merged({1: ([1, 1], [0, 0]), 2: ([2, 2], SQUARE)}, other, other, other)

    def test_added_on_either_side(self):
        first, second = {1: ([1, 1], [0, 0])}, {0: ([2, 2], SQUARE)}
        self.check_merged({}, first, second, {**second, **first})

    def test_added_alike_on_both_sides(self):
        both = {7: ([1, 2], SQUARE)}
        self.check_merged({}, both, both, both)
        self.check_merged({}, both, {**both, 8: ([0, 0], [0, 0])}, {**both, 8: ([0, 0], [0, 0])})

    def test_removed_on_either_side_and_on_both(self):
        base = {number: ([number, 0], [0, 0]) for number in (1, 2, 3, 4)}
        ours = {number: base[number] for number in (2, 4)}
        theirs = {number: base[number] for number in (3, 4)}
        self.check_merged(base, ours, theirs, {4: base[4]})

    def test_removed_on_both_sides_with_nothing_else(self):
        self.check_merged({1: ([1, 1], [0, 0])}, {}, {}, {})

    def test_removed_on_one_side_and_added_on_the_other(self):
        self.check_merged({1: ([1, 1], [0, 0])}, {}, {1: ([1, 1], [0, 0]), 2: ([1, 1], [0, 0])}, {2: ([1, 1], [0, 0])})

    def test_different_attributes(self):
        merged = {7: ([8, 9], [0, 0])}
        self.check_merged({7: ([1, 2], [0, 0])}, {7: ([8, 2], [0, 0])}, {7: ([1, 9], [0, 0])}, merged)

    def test_an_attribute_alike_and_another_one(self):
        merged = {7: ([8, 9], [0, 0])}
        self.check_merged({7: ([1, 2], [0, 0])}, {7: ([8, 2], [0, 0])}, {7: ([8, 9], [0, 0])}, merged)

    def test_attributes_and_vertices(self):
        merged = {7: ([8, 2], [5, 5, 6, 6])}
        self.check_merged({7: ([1, 2], [0, 0])}, {7: ([8, 2], [0, 0])}, {7: ([1, 2], [5, 5, 6, 6])}, merged)

    def test_different_vertices_of_lists_of_one_length(self):
        ours, theirs = [9, 0] + SQUARE[2:], SQUARE[:4] + [4, 9, 0, 9]
        merged = {7: ([1, 2], [9, 0, 4, 0, 4, 9, 0, 9])}
        self.check_merged({7: ([1, 2], SQUARE)}, {7: ([1, 2], ours)}, {7: ([1, 2], theirs)}, merged)

    def test_a_vertex_alike_and_another_one(self):
        ours, theirs = [9, 0] + SQUARE[2:], [9, 0] + SQUARE[2:6] + [0, 9]
        self.check_merged({7: ([1, 2], SQUARE)}, {7: ([1, 2], ours)}, {7: ([1, 2], theirs)}, {7: ([1, 2], theirs)})

    def test_vertices_of_another_length_alike(self):
        ours, theirs = ([8, 2], SQUARE[:6]), ([1, 9], SQUARE[:6])
        self.check_merged({7: ([1, 2], SQUARE)}, {7: ours}, {7: theirs}, {7: ([8, 9], SQUARE[:6])})

    def test_edges_of_the_ids(self):
        base = {number: ([0, 0], [0, 0]) for number in EDGE_IDS}
        ours = {number: ([1, 0], [0, 0]) for number in EDGE_IDS}
        theirs = {number: ([0, 2], [0, 0]) for number in EDGE_IDS}
        self.check_merged(base, ours, theirs, {number: ([1, 2], [0, 0]) for number in EDGE_IDS})


class Kinds(ThreeWay):
    def test_1_removed_and_changed(self):
        base = {7: ([1, 2], SQUARE)}
        for changed in (([1, 3], SQUARE), ([1, 2], SQUARE[2:]), ([0, 0], [0, 0])):
            self.check_conflicts(base, {}, {7: changed}, [(7, 1, 0)], {}, {7: changed})
            self.check_conflicts(base, {7: changed}, {}, [(7, 1, 0)], {7: changed}, {})

    def test_2_added_twice(self):
        first = {7: ([1, 2], SQUARE)}
        for other in (([1, 3], SQUARE), ([0, 2], SQUARE), ([1, 2], SQUARE[2:]), ([1, 2], SQUARE[:6] + [0, 5])):
            self.check_conflicts({}, first, {7: other}, [(7, 2, 0)], first, {7: other})

    def test_3_attribute(self):
        for index in (0, 1):
            rows = [[1, 2], [1, 2], [1, 2]]
            rows[1][index], rows[2][index] = 8, 9
            base, ours, theirs = [{7: (row, SQUARE)} for row in rows]
            self.check_conflicts(base, ours, theirs, [(7, 3, index)], ours, theirs)

    def test_3_beside_what_is_merged(self):
        base, ours, theirs = {7: ([1, 2], [0, 0])}, {7: ([8, 2], [5, 5, 6, 6])}, {7: ([9, 3], [0, 0])}
        by_ours, by_theirs = {7: ([8, 3], [5, 5, 6, 6])}, {7: ([9, 3], [5, 5, 6, 6])}
        self.check_conflicts(base, ours, theirs, [(7, 3, 0)], by_ours, by_theirs)

    def test_4_vertex(self):
        for index in range(4):
            rows = [list(SQUARE), list(SQUARE), list(SQUARE)]
            rows[1][2 * index:2 * index + 2], rows[2][2 * index:2 * index + 2] = [7, 7], [8, 8]
            base, ours, theirs = [{7: ([1, 2], row)} for row in rows]
            self.check_conflicts(base, ours, theirs, [(7, 4, index)], ours, theirs)

    def test_4_both_coordinates_together(self):
        base, ours, theirs = {7: ([1, 2], [0, 0])}, {7: ([1, 2], [5, 0])}, {7: ([1, 2], [0, 6])}
        self.check_conflicts(base, ours, theirs, [(7, 4, 0)], ours, theirs)

    def test_4_beside_what_is_merged(self):
        base, ours, theirs = {7: ([1, 2], SQUARE)}, {7: ([1, 2], [1, 1, 2, 2] + SQUARE[4:])}, {
            7: ([1, 3], SQUARE[:2] + [3, 3, 5, 5] + SQUARE[6:])}
        by_ours, by_theirs = {7: ([1, 3], [1, 1, 2, 2, 5, 5, 0, 4])}, {7: ([1, 3], [1, 1, 3, 3, 5, 5, 0, 4])}
        self.check_conflicts(base, ours, theirs, [(7, 4, 1)], by_ours, by_theirs)

    def test_5_lists_of_vertices(self):
        longer, shorter, moved = SQUARE + [5, 5], SQUARE[:6], [1, 1] + SQUARE[2:]
        for first, second in ((longer, moved), (shorter, moved), (longer, shorter), (longer, SQUARE + [6, 6]),
                              (shorter, SQUARE[2:]), (SQUARE[:2], SQUARE[2:4])):
            base, ours, theirs = {7: ([1, 2], SQUARE)}, {7: ([1, 2], first)}, {7: ([1, 2], second)}
            self.check_conflicts(base, ours, theirs, [(7, 5, 0)], ours, theirs)

    def test_5_beside_what_is_merged(self):
        base, ours, theirs = {7: ([1, 2], SQUARE)}, {7: ([8, 2], SQUARE[:6])}, {7: ([1, 9], SQUARE[2:])}
        by_ours, by_theirs = {7: ([8, 9], SQUARE[:6])}, {7: ([8, 9], SQUARE[2:])}
        self.check_conflicts(base, ours, theirs, [(7, 5, 0)], by_ours, by_theirs)


class SeveralConflicts(ThreeWay):
    def test_of_one_feature_attributes_before_vertices(self):
        base = {7: ([1, 2], SQUARE)}
        ours = {7: ([8, 8], [1, 1, 4, 0, 1, 1, 0, 4])}
        theirs = {7: ([9, 9], [2, 2, 4, 0, 2, 2, 6, 6])}
        by_ours = {7: ([8, 8], [1, 1, 4, 0, 1, 1, 6, 6])}
        conflicts = [(7, 3, 0), (7, 3, 1), (7, 4, 0), (7, 4, 2)]
        self.check_conflicts(base, ours, theirs, conflicts, by_ours, theirs)

    def test_of_one_feature_attributes_before_the_list_of_vertices(self):
        base, ours, theirs = {7: ([1, 2], [0, 0])}, {7: ([8, 8], [1, 1, 2, 2])}, {7: ([9, 9], [3, 3])}
        self.check_conflicts(base, ours, theirs, [(7, 3, 0), (7, 3, 1), (7, 5, 0)], ours, theirs)

    def test_of_several_features_by_ascending_id(self):
        same = ([0, 0], [0, 0])
        base = {1: ([1, 1], [0, 0]), 3: ([3, 3], SQUARE), 4: ([4, 4], SQUARE), 5: ([5, 5], [0, 0]), 10: same}
        ours = {
            2: ([2, 0], [0, 0]), 3: ([6, 3], [9, 9] + SQUARE[2:]), 4: ([4, 4], SQUARE[2:]), 5: ([6, 5], [0, 0]),
            10: same, 11: same, 65535: ([1, 1], [0, 0]),
        }
        theirs = {
            1: ([1, 9], [0, 0]), 2: ([2, 1], [0, 0]), 3: ([7, 3], [8, 8] + SQUARE[2:]), 4: ([4, 5], SQUARE[4:]),
            65535: ([2, 2], [0, 0]),
        }
        conflicts = [(1, 1, 0), (2, 2, 0), (3, 3, 0), (3, 4, 0), (4, 5, 0), (5, 1, 0), (65535, 2, 0)]
        by_ours = {**ours, 4: ([4, 5], SQUARE[2:])}
        by_ours.pop(10)
        self.check_conflicts(base, ours, theirs, conflicts, by_ours, {**theirs, 11: same})

    def test_ids_ascend_whatever_order_they_came_in(self):
        scattered = (300, 17, 9, 65535, 2, 256, 33, 8, 64)
        base, ours, theirs = [{number: ([value, 0], [0, 0]) for number in scattered} for value in (0, 1, 2)]
        listed = [value for number in sorted(scattered) for value in (number, 3, 0)]
        self.assertEqual(ask_last(three_versions(2, base, ours, theirs) + [("merge", 9)]), [-35, 9] + listed)

    def test_of_16_features_with_8_attributes_and_12_vertices(self):
        base, ours, theirs = [
            {number: ([value] * 8, [value] * 24) for number in range(16)} for value in (0, 1, 2)
        ]
        calls = three_versions(8, base, ours, theirs)
        each = [(3, index) for index in range(8)] + [(4, index) for index in range(12)]
        listed = [value for number in range(16) for kind, index in each for value in (number, kind, index)]
        for before, branch in ((calls, 9), (exchange(calls), 0)):
            self.check_refused_with(before, ("merge", branch), [-35, 320] + listed)
        self.assertEqual(ask(calls + [("merge_with", 9, 0), ("diff", OURS, MERGED)])[-2:], [[2, MERGED, 320], [0]])
        self.assertEqual(ask(calls + [("merge_with", 9, 1), ("diff", THEIRS, MERGED)])[-2:], [[2, MERGED, 320], [0]])


def merged_value(base, ours, theirs, favored):
    """The merged value, and whether it needed the favored one: another wording of the same three cases."""
    changes = [value for value in (ours, theirs) if value != base]
    if len(changes) == 2 and changes[0] != changes[1]:
        return favored, True
    return (changes or [base])[0], False


def merge_by_hand(base, ours, theirs, side):
    """The merged version, and its conflicts as (id, kind, index), as the document tells them step by step."""
    result, conflicts = {}, []
    for number in range(20):
        sides = [version.get(number) for version in (base, ours, theirs)]
        value, is_decided = merged_value(*sides, sides[1 + side])
        if is_decided and None in sides:
            conflicts.append((number, 2 if sides[0] is None else 1, 0))
        elif is_decided:
            value, found = merge_feature_by_hand(sides, side)
            conflicts.extend((number, *conflict) for conflict in found)
        if value is not None:
            result[number] = value
    return result, conflicts


def merge_feature_by_hand(sides, side):
    rows = [feature[0] for feature in sides]
    lists = [list(zip(feature[1][::2], feature[1][1::2])) for feature in sides]
    pairs = [merged_value(*values, values[1 + side]) for values in zip(*rows)]
    conflicts = [(3, index) for index, (value, is_decided) in enumerate(pairs) if is_decided]
    vertices, is_decided = merged_value(*lists, lists[1 + side])
    if is_decided and len({len(vertices) for vertices in lists}) > 1:
        conflicts.append((5, 0))
    elif is_decided:
        found = [merged_value(*values, values[1 + side]) for values in zip(*lists)]
        conflicts += [(4, index) for index, (value, is_decided) in enumerate(found) if is_decided]
        vertices = [value for value, is_decided in found]
    return ([value for value, is_decided in pairs], [number for vertex in vertices for number in vertex]), conflicts


def random_version(source, near, attribute_count):
    """A version near another one: its features are the same, changed a little, another one's, or not there."""
    version = {}
    for number in range(6):
        row, vertices = near.get(number, ([0] * attribute_count, [0, 0, 1, 1, 2, 2]))
        if source.random() < 0.5:
            row = [value if source.random() < 0.5 else source.randrange(3) for value in row]
        if source.random() < 0.5:
            vertices = [value if source.random() < 0.7 else source.randrange(3) for value in vertices]
        if source.random() < 0.2:
            vertices = vertices[2:] or vertices * 2
        if source.random() < (0.9 if number in near else 0.3):
            version[number] = (row, vertices)
    return version


class RandomMerges(StoreTest):
    def triples(self):
        for seed in range(120):
            source = random.Random(seed)
            attribute_count = source.randrange(4)
            base = random_version(source, random_version(source, {}, attribute_count), attribute_count)
            ours, theirs = [random_version(source, base, attribute_count) for side in range(2)]
            yield attribute_count, base, ours, theirs

    def test_as_the_document_tells_it_step_by_step(self):
        for attribute_count, base, ours, theirs in self.triples():
            calls = three_versions(attribute_count, base, ours, theirs)
            for side in (0, 1):
                result, conflicts = merge_by_hand(base, ours, theirs, side)
                listed = [-35, len(conflicts)] + [number for conflict in conflicts for number in conflict]
                asked = ask_last(calls + [("merge", 9)])
                self.assertEqual(asked, listed if conflicts else [2, MERGED, 0])
                decided = calls + [("merge_with", 9, side)]
                self.assertEqual(ask_last(decided), [2, MERGED, len(conflicts)])
                self.assertEqual(read_version(decided, MERGED), result)

    def test_exchanged_sides(self):
        for versions in self.triples():
            calls = three_versions(*versions)
            self.assertEqual(ask_last(calls + [("merge", 9)]), ask_last(exchange(calls) + [("merge", 0)]))
            for side in (0, 1):
                one = calls + [("merge_with", 9, side)]
                other = exchange(calls) + [("merge_with", 0, 1 - side)]
                self.assertEqual(ask_last(one), ask_last(other))
                self.assertEqual(read_version(one, MERGED), read_version(other, MERGED))

    def test_with_the_base_on_either_side(self):
        for attribute_count, base, ours, theirs in self.triples():
            for one, other in ((base, ours), (ours, base)):
                calls = three_versions(attribute_count, base, one, other)
                self.assertEqual(ask_last(calls + [("merge", 9)]), [2, MERGED, 0])
                self.assertEqual(read_version(calls + [("merge", 9)], MERGED), ours)

    def test_every_kind_is_reached(self):
        kinds = {kind for count, *sides in self.triples() for number, kind, index in merge_by_hand(*sides, 0)[1]}
        self.assertEqual(kinds, {1, 2, 3, 4, 5})

    def test_versions_are_those_that_were_asked_for(self):
        for attribute_count, base, ours, theirs in self.triples():
            calls = three_versions(attribute_count, base, ours, theirs)
            for number, version in ((BASE, base), (OURS, ours), (THEIRS, theirs)):
                self.assertEqual(read_version(calls, number), version)
            self.assertEqual(ask(calls + [("common_ancestor", OURS, THEIRS)])[-1], [BASE])


if __name__ == "__main__":
    unittest.main()
