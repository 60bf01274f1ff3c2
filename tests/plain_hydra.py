"""What the tests share: how calls are written, small hydras, and a slow plain model to hold the answers against.

The model keeps a hydra as a tree of lists (a knot is the list of what hangs straight on it) and goes down it by
recursion, so that it has nothing in common with the program's way.
"""
from functools import cmp_to_key

MOST = 16384
GREATEST = 4294967295


def start(depths):
    return [0, len(depths)] + depths


def cut(head, often):
    return [1, head, often]


def tell():
    return [2]


def order(depths):
    return [3, len(depths)] + depths


def line(*calls):
    return [number for call in calls for number in call]


def split(answered):
    """The answers of a line, one list each."""
    found = []
    place = 0
    while place < len(answered):
        count = answered[place]
        found.append(answered[place + 1:place + 1 + count])
        place += 1 + count
    assert place == len(answered), "the last answer is cut short"
    return found


def small_hydras(most):
    """All hydras of at most so many knots."""
    found = [[0]]
    newest = [[0]]
    for size in range(2, most + 1):
        newest = [depths + [depth] for depths in newest for depth in range(1, depths[-1] + 2)]
        found = found + newest
    return found


def heads_of(depths):
    return [k for k in range(1, len(depths)) if k + 1 == len(depths) or depths[k + 1] <= depths[k]]


def tree_of(depths):
    body = []
    path = [body]
    for depth in depths[1:]:
        knot = []
        path[depth - 1].append(knot)
        path = path[:depth] + [knot]
    return body


def depths_of(tree, depth=0):
    found = [depth]
    for knot in tree:
        found = found + depths_of(knot, depth + 1)
    return found


def trees_in_order(one, other):
    """-1, 0 or 1, by the words of the document."""
    ones = sorted(one, key=cmp_to_key(trees_in_order), reverse=True)
    others = sorted(other, key=cmp_to_key(trees_in_order), reverse=True)
    for place in range(max(len(ones), len(others))):
        if place == len(ones):
            return -1
        if place == len(others):
            return 1
        found = trees_in_order(ones[place], others[place])
        if found != 0:
            return found
    return 0


def copied(tree):
    return [copied(knot) for knot in tree]


def walked(tree, above=None, above_that=None):
    """The knots in the order of their numbers, each with what it hangs on and what that hangs on."""
    found = [(tree, above, above_that)]
    for knot in tree:
        found = found + walked(knot, tree, above)
    return found


def place_of(knot, row):
    """Knots that look alike are still not the same one."""
    return [k for k in range(len(row)) if row[k] is knot][0]


def plain_cut(depths, head, often):
    """The depths after the cut, or the refusal's number. Only for an often that can be grown."""
    body = tree_of(depths)
    knots = walked(body)
    if head == 0 or head >= len(knots) or knots[head][0] != []:
        return -22
    knot, holder, above = knots[head]
    holder.pop(place_of(knot, holder))
    if above is not None:
        behind = place_of(holder, above) + 1
        for time in range(often):
            above.insert(behind, copied(holder))
    after = depths_of(body)
    return -28 if len(after) > MOST else after


def is_plain_hydra(depths):
    if len(depths) == 0 or len(depths) > MOST or depths[0] != 0:
        return False
    return all(1 <= after <= before + 1 for before, after in zip(depths, depths[1:]))


def plain_answers(calls):
    """The answers to calls, each a tuple: a name and what is handed in."""
    depths = None
    found = []
    for call in calls:
        if call[0] == "tell":
            found.append([len(depths)] + depths)
        elif call[0] == "cut":
            after = plain_cut(depths, call[1], call[2])
            if isinstance(after, int):
                found.append([after])
            else:
                depths = after
                found.append([len(depths)])
        elif not is_plain_hydra(call[1]):
            found.append([-22])
        elif call[0] == "start":
            depths = call[1]
            found.append([0])
        else:
            found.append([trees_in_order(tree_of(depths), tree_of(call[1]))])
    return found
