"""Answers a list of calls on one store, which doesn't exist at the list's beginning."""

from plotversions.calls import read_call
from plotversions.committing import collect_garbage, commit, discard, reset_branch
from plotversions.comparing import diff, match_features, working_diff
from plotversions.editing import insert_vertex, move_vertex, put_feature
from plotversions.editing import remove_feature, remove_vertex, set_attribute
from plotversions.joining import cherry_pick, merge, merge_with, revert
from plotversions.limits import GREATEST_ATTRIBUTE_COUNT, NO_INSTANCE, OUT_OF_RANGE
from plotversions.naming import create_branch, delete_branch, delete_tag, set_tag, switch_branch
from plotversions.reading import get_feature, get_state, list_features
from plotversions.state import Store
from plotversions.tracing import common_ancestor, hash_of_commit, log, origin_of_attribute, origin_of_vertices

CREATE = 0


class Session:
    def __init__(self):
        self.store = None


def answers(calls):
    session = Session()
    operations = operations_by_number()
    written = []
    position = 0
    while position < len(calls):
        number, given, position = read_call(calls, position)
        answer = answer_call(session, operations, number, given)
        written.append(len(answer))
        written.extend(answer)
    return written


# create stands apart: it alone is answered where there is no store yet.
def answer_call(session, operations, number, given):
    if number == CREATE:
        return create(session, given)
    if session.store is None:
        return [NO_INSTANCE]
    operation = operations[number]
    return operation(session.store, given)


def create(session, given):
    attribute_count = given[0]
    if attribute_count > GREATEST_ATTRIBUTE_COUNT:
        return [OUT_OF_RANGE]
    session.store = Store(attribute_count)
    return [0]


def operations_by_number():
    return {
        1: put_feature,
        2: remove_feature,
        3: set_attribute,
        4: move_vertex,
        5: insert_vertex,
        6: remove_vertex,
        7: get_feature,
        8: list_features,
        9: commit,
        10: discard,
        11: create_branch,
        12: switch_branch,
        13: delete_branch,
        14: reset_branch,
        15: set_tag,
        16: delete_tag,
        17: diff,
        18: working_diff,
        19: merge,
        20: merge_with,
        21: revert,
        22: cherry_pick,
        23: log,
        24: common_ancestor,
        25: origin_of_attribute,
        26: origin_of_vertices,
        27: hash_of_commit,
        28: collect_garbage,
        29: match_features,
        30: get_state,
    }
