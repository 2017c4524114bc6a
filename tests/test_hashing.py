"""hash: the hash of a commit."""

import unittest

from helper import GREATEST_NAME, WORKING, StoreTest, ask, ask_last, coordinates
from helper import commit_hash_by_hand, fnv, version_hash_by_hand, written_hash

EMPTY = [("create", 2)]
# Commit 1 has one feature, and commit 2 the same one with an attribute of -1.
NEGATIVE = EMPTY + [
    ("put_feature", 7, [1, 2], [0, 0, 4, 0]), ("commit",), ("put_feature", 7, [-1, 2], [0, -5, 4, 0]), ("commit",),
]


class FowlerNollVo(unittest.TestCase):
    def test_what_is_known_of_it(self):
        # These are published with the description of FNV-1a.
        self.assertEqual(fnv(b""), 0xCBF29CE484222325)
        self.assertEqual(fnv(b"a"), 0xAF63DC4C8601EC8C)
        self.assertEqual(fnv(b"foobar"), 0x85944171F73967E8)


class Hash(StoreTest):
    def test_commit_0(self):
        # Four bytes 0 are hashed first, and the eight bytes of that hash then.
        self.assertEqual(version_hash_by_hand({}), fnv(bytes(4)))
        self.assertEqual(ask_last(EMPTY + [("hash", 0)]), written_hash(fnv(fnv(bytes(4)).to_bytes(8, "little"))))
        self.assertEqual(ask_last(EMPTY + [("hash", 0)]), [0, 2901263852, 1128285067])
        self.assertEqual(ask_last([("create", 8), ("hash", 0)]), [0, 2901263852, 1128285067])

    def test_one_parent_and_negative_numbers(self):
        zeroth = commit_hash_by_hand({})
        first = commit_hash_by_hand({7: ([1, 2], [0, 0, 4, 0])}, zeroth)
        second = commit_hash_by_hand({7: ([-1, 2], [0, -5, 4, 0])}, first)
        self.assertEqual(ask(NEGATIVE + [("hash", 1), ("hash", 2)])[-2:], [written_hash(first), written_hash(second)])

    def test_bytes_of_negative_numbers(self):
        version = {0: ([-1, -1000000000], [-1000000, 1000000, -1, -256])}
        calls = EMPTY + [("put_feature", 0, *version[0]), ("commit",), ("hash", 1)]
        data = (
            b"\x01\0\0\0" b"\0\0\0\0" b"\x02\0\0\0" b"\xff\xff\xff\xff" b"\x00\x36\x65\xc4"
            b"\x02\0\0\0" b"\xc0\xbd\xf0\xff" b"\x40\x42\x0f\x00" b"\xff\xff\xff\xff" b"\x00\xff\xff\xff"
        )
        self.assertEqual(version_hash_by_hand(version), fnv(data))
        both = commit_hash_by_hand({}).to_bytes(8, "little") + fnv(data).to_bytes(8, "little")
        self.assertEqual(ask_last(calls), written_hash(fnv(both)))

    def test_empty_version_behind_another(self):
        more = [("remove_feature", 7), ("commit",), ("hash", 3)]
        first = commit_hash_by_hand({7: ([1, 2], [0, 0, 4, 0])}, commit_hash_by_hand({}))
        second = commit_hash_by_hand({7: ([-1, 2], [0, -5, 4, 0])}, first)
        self.assertEqual(ask_last(NEGATIVE + more), written_hash(commit_hash_by_hand({}, second)))

    def test_two_parents_in_their_order(self):
        calls = [
            ("create", 0), ("create_branch", 5), ("put_feature", 1, [], [1, 1]), ("commit",), ("switch_branch", 5),
            ("put_feature", 2, [], [2, 2]), ("commit",),
        ]
        first = commit_hash_by_hand({1: ([], [1, 1])}, commit_hash_by_hand({}))
        second = commit_hash_by_hand({2: ([], [2, 2])}, commit_hash_by_hand({}))
        both = {1: ([], [1, 1]), 2: ([], [2, 2])}
        asked = [("hash", 1), ("hash", 2), ("hash", 3)]
        self.assertEqual(
            ask(calls + [("merge", 0)] + asked)[-3:],
            [written_hash(first), written_hash(second), written_hash(commit_hash_by_hand(both, second, first))],
        )
        self.assertEqual(
            ask(calls + [("switch_branch", 0), ("merge", 5)] + asked)[-3:],
            [written_hash(first), written_hash(second), written_hash(commit_hash_by_hand(both, first, second))],
        )

    def test_largest_version(self):
        version = {65535 - number: ([-number] * 8, coordinates(12)) for number in range(16)}
        puts = [("put_feature", number, *feature) for number, feature in version.items()]
        calls = [("create", 8), *puts, ("commit",), ("hash", 1)]
        self.assertEqual(ask_last(calls), written_hash(commit_hash_by_hand(version, commit_hash_by_hand({}))))

    def test_order_in_which_features_were_put_is_no_matter(self):
        puts = [("put_feature", number, [number, 0], [0, 0]) for number in (9, 300, 2, 10)]
        forth = EMPTY + puts + [("commit",), ("hash", 1)]
        back = EMPTY + puts[::-1] + [("remove_feature", 2), puts[2], ("commit",), ("hash", 1)]
        self.assertEqual(ask_last(forth), ask_last(back))

    def test_like_parents_and_versions(self):
        edit = [("set_attribute", 7, 0, 5), ("commit",)]
        calls = NEGATIVE + edit + [("reset_branch", 2)] + edit
        asked = [("hash", 2), ("hash", 3), ("hash", 4)]
        second, third, fourth = ask(calls + asked)[-3:]
        self.assertEqual(third, fourth)
        self.assertNotEqual(second, third)

    def test_like_versions_of_unlike_parents(self):
        undone = [("put_feature", 7, [1, 2], [0, 0, 4, 0]), ("commit",)]
        first, third = ask(NEGATIVE + undone + [("hash", 1), ("hash", 3)])[-2:]
        self.assertNotEqual(first, third)

    def test_each_number_counts(self):
        features = (
            (7, [1, 2], [0, 0, 4, 0]), (8, [1, 2], [0, 0, 4, 0]), (7, [2, 1], [0, 0, 4, 0]), (7, [1, 2], [0, 0]),
            (7, [1, 3], [0, 0, 4, 0]), (7, [1, 2], [0, 0, 4, 1]), (7, [1, 2], [0, 0, 0, 4]), (7, [1, -2], [0, 0, 4, 0]),
        )
        found = [ask_last(EMPTY + [("put_feature", *feature), ("commit",), ("hash", 1)]) for feature in features]
        self.assertEqual(len({tuple(answer) for answer in found}), len(features))

    def test_names_and_working_version_are_no_matter(self):
        more = [("set_tag", 3, 1), ("create_branch", 8), ("remove_feature", 7), ("hash", 2)]
        self.assertEqual(ask_last(NEGATIVE + more), ask_last(NEGATIVE + [("hash", 2)]))

    def test_both_halves_are_below_2_to_the_32(self):
        calls = EMPTY + [call for value in range(39) for call in (("put_feature", 1, [value, 0], [0, 0]), ("commit",))]
        for answer in ask(calls + [("hash", number) for number in range(40)])[-40:]:
            self.assertEqual((len(answer), answer[0]), (3, 0))
            self.assertTrue(all(0 <= half < 2**32 for half in answer[1:]))

    def test_no_such_commit(self):
        for number in (3, 4, 40, GREATEST_NAME - 1, WORKING):
            self.check_refused(NEGATIVE, ("hash", number), -2)

    def test_changes_nothing(self):
        self.check_no_change(NEGATIVE, [("hash", 0), ("hash", 2)])


if __name__ == "__main__":
    unittest.main()
