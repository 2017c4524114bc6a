"""Reads single calls from the list in which they are handed in."""

NUMBER_COUNTS = (
    1,  # create
    1,  # put_feature
    1,  # remove_feature
    3,  # set_attribute
    4,  # move_vertex
    4,  # insert_vertex
    2,  # remove_vertex
    2,  # get_feature
    1,  # list_features
    0,  # commit
    0,  # discard
    1,  # create_branch
    1,  # switch_branch
    1,  # delete_branch
    1,  # reset_branch
    2,  # set_tag
    1,  # delete_tag
    2,  # diff
    0,  # working_diff
    1,  # merge
    2,  # merge_with
    1,  # revert
    1,  # cherry_pick
    1,  # log
    2,  # common_ancestor
    2,  # origin_of_attribute
    1,  # origin_of_vertices
    1,  # hash
    0,  # collect_garbage
    3,  # match_features
    0,  # get_state
)

PUT_FEATURE = 1
PUT_FEATURE_ROW_COUNT = 2


def read_call(calls, position):
    number = calls[position]
    start = position + 1
    end = start + NUMBER_COUNTS[number]
    given = calls[start:end]
    for row in range(row_count(number)):
        start = end + 1
        end = start + calls[end]
        given.append(calls[start:end])
    return number, given, end


def row_count(number):
    if number == PUT_FEATURE:
        return PUT_FEATURE_ROW_COUNT
    return 0
