"""Writes calls by their names, splits what is answered call by call, and works out by hand what is to be answered.

The functions that end in `by_hand` follow the document in another wording than the program; where they take a version,
it is {id: (attributes, coordinates)}.
"""

import unittest

from plotversions.store import answers

NAMES = (
    "create", "put_feature", "remove_feature", "set_attribute", "move_vertex", "insert_vertex",
    "remove_vertex", "get_feature", "list_features", "commit", "discard", "create_branch",
    "switch_branch", "delete_branch", "reset_branch", "set_tag", "delete_tag", "diff", "working_diff",
    "merge", "merge_with", "revert", "cherry_pick", "log", "common_ancestor", "origin_of_attribute",
    "origin_of_vertices", "hash", "collect_garbage", "match_features", "get_state",
)
QUERIES = (
    "get_feature", "list_features", "diff", "working_diff", "log", "common_ancestor", "origin_of_attribute",
    "origin_of_vertices", "hash", "match_features", "get_state",
)
MAKING_COMMITS = ("commit", "merge", "merge_with", "revert", "cherry_pick")

WORKING = 4294967295
GREATEST_NAME = 4294967295
UNUSED_NAME = 4000000000
UNUSED_ID = 60000

LEAST_SIGNED = -2147483648
GREATEST_SIGNED = 2147483647


def write_calls(calls):
    """The list of whole numbers for calls such as ("put_feature", 7, [1], [0, 0])."""
    numbers = []
    for name, *arguments in calls:
        numbers.append(NAMES.index(name))
        for argument in arguments:
            if isinstance(argument, list):
                numbers.append(len(argument))
                numbers.extend(argument)
            else:
                numbers.append(argument)
    # No test may hand in what the document says is never handed in.
    if not 1 <= len(calls) <= 256 or len(numbers) > 16384:
        raise AssertionError(f"{len(calls)} calls, {len(numbers)} numbers")
    return numbers


def split_answers(numbers):
    split = []
    position = 0
    while position < len(numbers):
        end = position + 1 + numbers[position]
        split.append(numbers[position + 1:end])
        position = end
    return split


def ask(calls):
    """The answer of each call, as a list of lists."""
    return split_answers(answers(write_calls(calls)))


def ask_last(calls):
    """The answer of the last call."""
    return ask(calls)[-1]


def coordinates(count):
    """The coordinates of `count` vertices, all different."""
    return [number for at in range(count) for number in (at, -at)]


def change_between(before, after):
    """The calls that change a version, {id: (attributes, coordinates)}, into another one."""
    removed = [("remove_feature", number) for number in before if number not in after]
    changed = [number for number in after if before.get(number) != after[number]]
    return removed + [("put_feature", number, *after[number]) for number in changed]


def three_versions(attribute_count, base, ours, theirs):
    """A session in which `merge` of branch 9 merges just these versions; see BASE, OURS, THEIRS and MERGED.

    Each version stands behind a commit with another one: so it is a commit of its own, even where it's empty or like
    the base, and neither side is an ancestor of the other one.
    """
    other = {65534: ([0] * attribute_count, [3, 3])}
    calls = [("create", attribute_count), *change_between({}, other), ("commit",)]
    calls += [*change_between(other, base), ("commit",), ("create_branch", 9)]
    calls += [*change_between(base, other), ("commit",), *change_between(other, ours), ("commit",)]
    calls += [("switch_branch", 9), *change_between(base, other), ("commit",)]
    return calls + [*change_between(other, theirs), ("commit",), ("switch_branch", 0)]


# The numbers of the commits in `three_versions`, and of the one that a merge then makes.
BASE, OURS, THEIRS, MERGED = 2, 4, 6, 7


def exchange(calls):
    """`three_versions` with the branch of theirs as the current one: `merge` of branch 0 exchanges both sides."""
    return calls + [("switch_branch", 9)]


def read_version(calls, number, ids=range(20)):
    """The version of a commit behind these calls, {id: (attributes, coordinates)}, as far as these ids go."""
    version = {}
    for feature, answer in zip(ids, ask(calls + [("get_feature", number, feature) for feature in ids])[len(calls):]):
        if answer != [-2]:
            end = 2 + answer[1]
            version[feature] = (answer[2:end], answer[end + 1:])
    return version


def first_arguments(calls, name):
    return sorted({call[1] for call in calls if call[0] == name})


def follow_ups(calls):
    """Lists of calls, each to be asked behind `calls`, that together show all of the state."""
    ids = first_arguments(calls, "put_feature")
    commits = range(1 + sum(call[0] in MAKING_COMMITS for call in calls))
    branches = sorted({0, *first_arguments(calls, "create_branch")})
    tags = first_arguments(calls, "set_tag") + [UNUSED_NAME]
    working = [("list_features", WORKING)] + [("get_feature", WORKING, number) for number in ids]
    return [
        working + [("get_state",), ("working_diff",), ("match_features", WORKING, 0, 9)],
        [("commit",), ("get_state",)],
        [("discard",)] + working + [("create_branch", UNUSED_NAME), ("get_state",)],
        [("list_features", commit) for commit in commits],
        [("hash", commit) for commit in commits] + [("log", commit) for commit in commits],
        [("set_tag", tag, 0) for tag in tags],
        [("delete_tag", tag) for tag in tags] + [("collect_garbage",), ("get_state",)],
        [("put_feature", UNUSED_ID, [0] * count, [0, 0]) for count in range(9)],
        [("origin_of_attribute", number, 0) for number in ids] + [("origin_of_vertices", number) for number in ids],
        *[[("get_feature", commit, number) for number in ids] for commit in commits],
        *[[("discard",), ("switch_branch", branch)] + working for branch in branches],
        *[[("discard",), ("delete_branch", branch)] for branch in branches],
        *[[("discard",), ("merge_with", branch, 0), ("get_state",)] for branch in branches],
    ]


def fnv(data):
    """FNV-1a with 64 bits."""
    value = 14695981039346656037
    for byte in data:
        value = (value ^ byte) * 1099511628211 % 2**64
    return value


def version_hash_by_hand(version):
    numbers = [len(version)]
    for number, (attributes, vertices) in sorted(version.items()):
        numbers += [number, len(attributes), *attributes, len(vertices) // 2, *vertices]
    return fnv(b"".join((number % 2**32).to_bytes(4, "little") for number in numbers))


def commit_hash_by_hand(version, *parents):
    """The hash of a commit, from its version and the hashes of its parents."""
    return fnv(b"".join(value.to_bytes(8, "little") for value in (*parents, version_hash_by_hand(version))))


def written_hash(value):
    """The answer of hash."""
    return [0, value >> 32, value % 2**32]


def squared(first, second):
    return (first[0] - second[0])**2 + (first[1] - second[1])**2


def correspondence_by_hand(first, second):
    """Way and squared distance of two lists of coordinates."""
    if first == second:
        return 0, 0
    first, second = [list(zip(row[::2], row[1::2])) for row in (first, second)]
    differences = {(after[0] - before[0], after[1] - before[1]) for before, after in zip(first, second)}
    if len(first) == len(second) and len(differences) == 1:
        return 1, squared((0, 0), differences.pop())
    nearest = [min(squared(vertex, other) for other in second) for vertex in first]
    nearest += [min(squared(vertex, other) for other in first) for vertex in second]
    return 2, max(nearest)


def match_by_hand(first, second, tolerance):
    """The answer of match_features: takes the least of the possible pairs that are left, until there is none."""
    pairs = [
        (*correspondence_by_hand(first[one][1], second[other][1]), one, other) for one in first for other in second
    ]
    pairs = [pair for pair in pairs if pair[1] <= tolerance**2]
    taken = []
    while pairs:
        best = min(pairs)
        taken.append(best)
        pairs = [pair for pair in pairs if pair[2] != best[2] and pair[3] != best[3]]
    gone = sorted(set(first) - {pair[2] for pair in taken})
    new = sorted(set(second) - {pair[3] for pair in taken})
    written = [number for way, distance, one, other in taken for number in (one, other, way, distance)]
    return [len(taken)] + written + [len(gone)] + gone + [len(new)] + new


def diff_by_hand(first, second):
    """The answer of diff."""
    changed = [number for number in sorted({*first, *second}) if first.get(number) != second.get(number)]
    written = [len(changed)]
    for number in changed:
        if number in first and number in second:
            (before, before_vertices), (after, after_vertices) = first[number], second[number]
            parts = sum(2**index for index in range(len(before)) if before[index] != after[index])
            written += [number, 3, parts + 1024 * (before_vertices != after_vertices)]
        else:
            written += [number, 2 if number in first else 1, 0]
    return written


class StoreTest(unittest.TestCase):
    def check_answers(self, *steps):
        """Each step is a call and its whole answer; all of them are one session."""
        answered = ask([call for call, answer in steps])
        for (call, answer), given in zip(steps, answered, strict=True):
            self.assertEqual(given, answer, call)

    def check_refused(self, before, refused, code):
        """The call is answered by the code alone, and later calls are answered as if it had not been there."""
        self.check_refused_with(before, refused, [code])

    def check_refused_with(self, before, refused, answer):
        """As `check_refused`, with the whole answer."""
        self.assertEqual(ask_last(before + [refused]), answer, refused)
        self.check_no_change(before, [refused])

    def check_no_change(self, before, asked):
        """Later calls are answered as if those asked had not been there."""
        for later in follow_ups(before + asked):
            if later:
                without = ask(before + later)[len(before):]
                self.assertEqual(ask(before + asked + later)[len(before + asked):], without, (asked, later))
