"""Calls of every function of the interface with right arguments, by the module and the name of the function."""

THREE = ((1, 1, 0), (1, 0, 1), (0, 1, 1))
PAIRS = ((0, 1), (0, 2), (1, 2))
TABLE = ((0, 0, 1, 1), (0, 2, 1, 1))
STUCK = ((0, 0, 1, 1), (0, 0, 2, 2))
DOWN = ((2, 0), (1, 1), (2, 0))
STEADY = (((1, 1, 0), (1, 0)), ((1, 0, 1), (0, 2)), ((0, 1, 1), (1, 2)))
THRIFTY = (((1, 1, 0), (1, 0)), ((1, 0, 1), (2, 0)))
FAMILY = ((1, 1, 0), (1, 0, 1), (0, 1, 1))
CLIQUE = ("clique", ((1, 0), (2, 0), (3, 0)))
KEPT = ((1, 1, 2), (0, 0, 1, 2), ((0, 2), (1, 2)), ((3, 2),))
JOURNAL = (("set", (2, 1, 1)), ("pin", 0), ("exclude", 1, 2), ("set", (1, 2, 1)), ("rollback", 1), ("allow", 1, 2))
RECORDS = ((("set", (2, 1, 1)), (0, 0, 1, 2), (1, 0, 0)), (("pin", 0), (0, 0, 1, 2), None))
SHARES = (("control", (1, 2)), ("blue", (121, 400)), ("red", (79, 400)))

CALLS = {
    "allocations": {
        "is_allocation": [((2, 1, 1), 3, 4), ([2, 1, 1], 3, 4)], "transfer": [((2, 2, 0), (1, 1, 2))],
        "medians": [((2, 2, 0), (1, 1, 2), (4, 0, 0))], "apportioned": [((1, 1, 1), 4), ((5, 3, 9, 1), 17)],
        "deviation": [((1, 1, 1), (2, 1, 1))], "is_nearest": [((1, 1, 1), (1, 2, 1)), ((1, 1, 1), (2, 2, 0))],
        "is_order": [((1, 0, 2), 3), ([1, 0, 2], 3)], "renamed_shares": [((2, 1, 1), (2, 0, 1))]},
    "assignments": {
        "is_assignment": [((0, 0, 2, 1), 3, 4), ([0, 0], 1, 2)], "allocation_of": [((0, 0, 2, 1), 3)],
        "churn": [((0, 0, 2, 1), (0, 2, 2, 0))], "moves": [((0, 0, 2, 1), (0, 2, 2, 0))],
        "flows": [((0, 0, 2, 1), (0, 2, 2, 0), 3)], "buckets_of": [((0, 0, 2, 1), 0)],
        "renamed": [((0, 0, 2, 1), (1, 0, 2, 3, 4))], "rearranged": [((0, 0, 2, 1), (3, 2, 1, 0))]},
    "changes": {
        "needless": [(3, (0, 0, 1, 1), (0, 1, 1, 2))], "is_minimal": [(3, (0, 0, 1, 1), (0, 2, 1, 1))],
        "first_change": [((1, 2, 1), (0, 0, 1, 1))], "excess": [((1, 2, 1), (0, 0, 1, 1), (0, 1, 1, 2))],
        "choices": [((1, 1, 4), (0, 1, 0, 2, 1, 0), 1)]},
    "counting": {
        "count_changes": [((1, 2, 1), (0, 0, 1, 1))], "nth_change": [((1, 2, 1), (0, 0, 1, 1), 1)],
        "index_of": [((1, 2, 1), (0, 0, 1, 1), (2, 0, 1, 1))], "next_change": [((1, 2, 1), (0, 0, 1, 1), (0, 2, 1, 1), 0)]},
    "priorities": {
        "unlike_pair": [(3, TABLE)], "first_lists": [(3, TABLE)],
        "gives": [(3, TABLE, ((0, 1), (3, 2), (1,))), (3, TABLE, [[0, 1], [3, 2], [1]])],
        "served": [(3, ((0, 1, 2, 3), (2, 3, 0, 1), (1, 0, 2, 3)), (0, 2, 2))]},
    "extending": {
        "allowed": [(3, TABLE, (1, 1, 2), 2)], "extension": [(3, TABLE, (1, 1, 2))], "obstruction": [(3, STUCK, (1, 2, 1))],
        "is_obstruction": [(3, STUCK, (1, 2, 1), ((0,), (0, 1))), (3, STUCK, (1, 2, 1), [[0], [0, 1]])]},
    "triples": {
        "excess": [THREE], "table_of_three": [((3, 1), (1, 3), (2, 2)), THREE], "all_different": [((4, 0, 0), (0, 4, 0), (0, 0, 4))],
        "accepts_three": [THREE + (("medians", (1, 1, 1)),), THREE + (["medians", [1, 1, 1]],)], "return_cost": [THREE],
        "returned": [THREE + ((0, 1),)], "accepts_return": [THREE + (((0, 1), (0, 2), (1, 2)),), THREE + ([[0, 1]],)],
        "lies_between": [((2, 2), (3, 1), (1, 3))], "bridge": [((3, 1), (1, 3), (2, 2))]},
    "plans": {
        "first_cycle": [(THREE, PAIRS)], "bad_triples": [(THREE, PAIRS)], "kept_pairs": [(THREE, PAIRS, ((0, 1), (0, 2), (1, 2)))],
        "first_table": [(THREE, PAIRS[:2])]},
    "conflicts": {
        "most_pairs": [(THREE, PAIRS)], "least_conflict": [(THREE, PAIRS)], "tree_against": [(THREE, PAIRS)],
        "accepts_tree": [(THREE, PAIRS, ("full", 0, 0)), (THREE, PAIRS, ["full", [0]])]},
    "histories": {
        "total": [(DOWN,)], "direct": [(DOWN,)], "first_turn": [(DOWN,)], "decreases": [(DOWN,)], "overdrawn": [(DOWN,)],
        "first_history": [(DOWN,)], "wrong_step": [(DOWN, ((0, 0), (0, 1), (0, 0)))],
        "changes_of": [(DOWN, ((0, 0), (0, 1), (0, 0)))], "calm_history": [(((1, 1), (0, 2), (1, 1)),)],
        "within": [(DOWN, 1), (DOWN, 2)], "least_limit": [(DOWN,)]},
    "rules": {
        "is_rule": [(STEADY, 3, 2), ([list(STEADY[0])], 3, 2)], "missing": [(3, 2, STEADY)], "needless_leave": [(3, 2, STEADY)],
        "leaves": [(3, 2, STEADY, 0, 1, 0)], "lists_of_rule": [(3, 2, STEADY)],
        "serves_rule": [(3, 2, STEADY, ((0, 1), (1,))), (3, 2, STEADY, [[0, 1], [1]])], "most_waste": [(3, 2, STEADY)]},
    "continuing": {
        "allowed_variants": [(3, 2, THRIFTY, (0, 1, 1))], "continuation": [(3, 2, STEADY, (0, 1, 1))],
        "why_none": [(3, 2, THRIFTY, (0, 1, 1))],
        "accepts_none": [(3, 2, THRIFTY, (0, 1, 1), ("short", (0,), (1,))), (3, 2, THRIFTY, (0, 1, 1), ["short", [0], [1]])]},
    "populations": {
        "is_family": [(FAMILY, 4), ([[1, 1, 0]], 4)], "entries": [(4, FAMILY)], "coexist": [(4, FAMILY, (1, 0), (3, 0))],
        "greatest_clique": [(4, FAMILY)], "fault": [(4, FAMILY, ((0,), (1,), (0,)))]},
    "fewest": {
        "fewest": [(4, FAMILY), (3, ((3, 1), (1, 3)))], "accepts_few": [(4, FAMILY, 2, CLIQUE), (4, FAMILY, 2, list(CLIQUE))],
        "accepts_fewest": [(4, FAMILY, (3, ((0,), (1,), (2,)), CLIQUE)), (4, FAMILY, [3, [[0]], None])],
        "needed": [(4, 3)], "lists_for": [(4, 3)]},
    "thresholds": {
        "by_intervals": [((2, 1, 3), (1, 0, 2))], "boundaries": [((2, 1, 3), (1, 0, 2))],
        "interval_churn": [((4, 4, 4), (2, 4, 6), (0, 1, 2))], "waste": [((4, 4, 4), (2, 4, 6), (0, 1, 2))],
        "interval_moves": [((4, 4, 4), (2, 4, 6), (0, 1, 2))], "best_order": [(((2, 2, 2, 2), (5, 1, 1, 1)),)]},
    "exclusions": {
        "is_possible": [((1, 1, 2), KEPT[2], (0, 1, 2, 2)), ((1, 1, 2), KEPT[2], [0, 1, 2, 2])],
        "first_possible": [((1, 1, 2), KEPT[2])], "too_small": [((1, 3), ((0, 1), (1, 1)))],
        "is_too_small": [((1, 3), ((0, 1), (1, 1)), ((0,), (0, 1))), ((1, 3), ((0, 1), (1, 1)), [[0], [0, 1]])]},
    "keeping": {
        "most_kept": [KEPT], "bound_by": [KEPT + ((1, 0, 0),)], "levels_for": [KEPT],
        "is_best": [KEPT + ((0, 1, 2, 2), (2, 1, 0)), KEPT + ([0, 1, 2, 2], [2, 1, 0])]},
    "journals": {
        "are_right": [(3, 4, RECORDS), (3, 4, [list(RECORDS[0])]), (3, 4, (list(RECORDS[0]),))],
        "replayed": [(3, 4, JOURNAL)]},
    "scanning": {"scan": [("control 50, blue 30.25,red 79/400",), ("",)]},
    "reading": {
        "next_tokens": [("blue 30", "shares"), ("0*3 2", "assignment")],
        "read_shares": [("control 50, blue 30.25,red 79/400",)], "read_assignment": [("0*3 2 1*2", 3)]},
    "writing": {
        "shares_text": [(SHARES,)], "assignment_text": [((0, 0, 0, 2, 1, 1),)], "is_shares": [(SHARES,), ([list(SHARES)],)],
        "allocation_of_shares": [(SHARES, 10)]},
    "controller": {"Controller": [(3, 4)]},
}

# Wrong first arguments, which every function but these tells.
TAKE_ANY_FIRST = ("is_allocation", "is_order", "is_assignment", "is_rule", "is_family", "is_shares")
