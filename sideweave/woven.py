"""The woven code: the items of a weave issued for the lanes of all their sides."""

from sideweave.kernels import check_kernel
from sideweave.plain import Group, check_lanes, check_launch
from sideweave.weaves import check_weave, opened


def run_weave(kernel, weave, launch):
    """Return the lanes' ends and all issues of the woven code, as two lists."""
    check_kernel(kernel)
    check_weave(kernel, weave)
    check_launch(launch)
    check_lanes(kernel, launch)
    group = Group(launch)
    issue_items(opened((kernel[1],), weave), [list(range(len(launch)))], group)
    return group.ends(kernel[0]), group.issued


def issue_items(items, standing, group):
    """Issue opened items in order, for the lanes that stand at each side."""
    for item in items:
        mine = [standing[side] for side in item.sides]
        if item.word == "set":
            issue_rows(item, mine, group)
        elif item.word == "split":
            issue_split(item, mine, group)
        else:
            issue_loop(item, mine, group)


def issue_rows(item, mine, group):
    """Issue each row of an item for the lanes of the sides that have it; return those for which tests hold."""
    holding = []
    for row, places in item.rows:
        lanes = sorted([lane for place in places for lane in mine[place]])
        holding.extend(group.issue(row, lanes))
    return holding


def issue_split(item, mine, group):
    """Issue a split for the lanes of its sides: its tests, and then its weave, each lane in its body."""
    holding = issue_rows(item, mine, group)
    inner = []
    for lanes in mine:
        inner.append([lane for lane in lanes if lane in holding])
        inner.append([lane for lane in lanes if lane not in holding])
    issue_items(item.inner, inner, group)


def issue_loop(item, mine, group):
    """Issue a loop for the lanes of its sides, until each has left it."""
    inside = mine
    while any(inside):
        holding = issue_rows(item, inside, group)
        inside = [[lane for lane in lanes if lane in holding] for lanes in inside]
        issue_items(item.inner, inside, group)
