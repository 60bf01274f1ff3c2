"""The calls on one hydra, which is told by the depths of its knots."""

MOST_KNOTS = 16384

NOT_VALID = -22
NO_ROOM = -28

HY_START = 0
HY_CUT = 1
HY_TELL = 2

# What a body hangs on: no knot has this number.
NOTHING = -1


def is_hydra(depths):
    """Tell whether these are the depths of a hydra that isn't too large."""
    if len(depths) < 1 or len(depths) > MOST_KNOTS:
        return False
    if depths[0] != 0:
        return False
    for knot in range(1, len(depths)):
        if depths[knot] < 1 or depths[knot] > depths[knot - 1] + 1:
            return False
    return True


def holders_of(depths):
    """Give for each knot the one it hangs on. Several hydras may stand one behind another."""
    holders = []
    latest = {}
    for knot in range(len(depths)):
        depth = depths[knot]
        # No knot has depth -1, so a body finds none to hang on.
        holders.append(latest.get(depth - 1, NOTHING))
        latest[depth] = knot
    return holders


def end_of(depths, knot):
    """Give the first place behind the knot and all that hangs on it."""
    end = knot + 1
    while end < len(depths) and depths[end] > depths[knot]:
        end += 1
    return end


def heights_of(holders):
    """Give for each knot how many knots the longest row of necks on it has."""
    heights = [0 for holder in holders]
    # A knot stands ahead of all that hangs on it: from the back, its height is known once it's reached.
    for knot in range(len(holders) - 1, -1, -1):
        holder = holders[knot]
        if holder != NOTHING:
            heights[holder] = max(heights[holder], heights[knot] + 1)
    return heights


def levels_of(heights):
    """Put the knots of one height together, the lowest first."""
    levels = [[] for height in range(max(heights) + 1)]
    for knot in range(len(heights)):
        levels[heights[knot]].append(knot)
    return levels


def ranks_of(depths):
    """Rank the knots, each taken for a body with what hangs on it: the lesser is before, the same are alike."""
    holders = holders_of(depths)
    rows = [[] for depth in depths]
    ranks = [0 for depth in depths]
    rank = 0
    # A lower hydra is before each higher one, so all that hangs on a level's knots is ranked ahead of them,
    # and a level's ranks are all greater than those of the levels below.
    for level in levels_of(heights_of(holders)):
        # Python compares lists as the order does: by the first difference, and one that ends there is less.
        pairs = sorted([(sorted(rows[knot], reverse=True), knot) for knot in level])
        row_before = None
        for pair in pairs:
            if pair[0] != row_before:
                rank += 1
            row_before = pair[0]
            knot = pair[1]
            ranks[knot] = rank
            if holders[knot] != NOTHING:
                rows[holders[knot]].append(rank)
    return ranks


def compare(one, other):
    """Answer -1 if the one hydra is before the other, 1 if the other is before it, else 0."""
    # Ranks can be compared only if they were given together.
    ranks = ranks_of(one + other)
    if ranks[0] < ranks[len(one)]:
        return -1
    if ranks[0] > ranks[len(one)]:
        return 1
    return 0


class Hydra:
    """The one object of a line of calls. Each call answers a list: its number, then what else it answers."""

    def __init__(self):
        self.depths = []

    def hy_start(self, depths):
        if not is_hydra(depths):
            return [NOT_VALID]
        self.depths = depths
        return [0]

    def hy_cut(self, head, often):
        holders = holders_of(self.depths)
        if head < 1 or head >= len(self.depths) or head in holders:
            return [NOT_VALID]
        rest = self.depths[:head] + self.depths[head + 1:]
        holder = holders[head]
        if holder == 0:
            self.depths = rest
            return [len(rest)]
        end = end_of(rest, holder)
        # Counted ahead of growing, since often may be far too great to grow first.
        if len(rest) + often * (end - holder) > MOST_KNOTS:
            return [NO_ROOM]
        self.depths = rest[:end] + rest[holder:end] * often + rest[end:]
        return [len(self.depths)]

    def hy_tell(self):
        return [len(self.depths)] + self.depths

    def hy_order(self, depths):
        if not is_hydra(depths):
            return [NOT_VALID]
        return [compare(self.depths, depths)]


def length_of_call(calls, place):
    """Give how many numbers the call that begins at this place has."""
    if calls[place] == HY_CUT:
        return 3
    if calls[place] == HY_TELL:
        return 1
    return 2 + calls[place + 1]


def answer_call(hydra, call):
    """Make one call on the hydra and give its answer."""
    if call[0] == HY_START:
        return hydra.hy_start(call[2:])
    if call[0] == HY_CUT:
        return hydra.hy_cut(call[1], call[2])
    if call[0] == HY_TELL:
        return hydra.hy_tell()
    return hydra.hy_order(call[2:])


def answers(calls):
    """Answer the calls on one new hydra: for each, how many numbers it answers, then these."""
    hydra = Hydra()
    answered = []
    place = 0
    while place < len(calls):
        end = place + length_of_call(calls, place)
        answer = answer_call(hydra, calls[place:end])
        answered.append(len(answer))
        answered.extend(answer)
        place = end
    return answered
