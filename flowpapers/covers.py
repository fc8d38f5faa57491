"""Trees of halved triangles, and the search for those on which all corners of a Plane are from 0 on."""

from heapq import heappop, heappush

from flowpapers.kinds import is_from
from flowpapers.nets import bends_of, halved_net, lines_of, most_bent, tips_of

# No tree that is handed in as lists has so many parts.
ENDLESS = 1000000


def is_tree(value, may_have_lists=False):
    """Whether any value is the empty tuple, or (side, one, other) with two trees; lists stand for tuples if told."""
    todo, many = [value], 0
    while todo:
        tree = todo.pop()
        many = many + 1
        # A list may hold itself: then it goes on for ever, and is no tree.
        if may_have_lists and many > ENDLESS:
            return False
        if not isinstance(tree, tuple) and not (may_have_lists and isinstance(tree, list)):
            return False
        if len(tree) not in (0, 3):
            return False
        if tree:
            if not is_from(tree[0], 0, 2):
                return False
            todo.extend(tree[1:])
    return True


def are_trees(value, many):
    """Whether any value is a tuple or list of so many trees, lists standing for tuples also within it."""
    if not isinstance(value, (tuple, list)) or len(value) != many:
        return False
    return all([is_tree(tree, True) for tree in value])


def leaves_of(nets, degree, tree):
    """For each triangle to which a tree leads, in order: the nets there, how often it was halved, and its path.

    nets are those on the first triangle, all for one degree; each halving multiplies them by 2 ** degree. A path
    is the empty tuple, or (side, half, path) with the path of the triangle that was halved.
    """
    sides = lines_of(degree)
    found = []
    todo = [(nets, 0, (), tree)]
    while todo:
        nets, depth, path, tree = todo.pop()
        if not tree:
            found.append((nets, depth, path))
        else:
            side, one, other = tree
            pairs = [halved_net(net, sides[side], degree) for net in nets]
            todo.append(([second for _, second in pairs], depth + 1, (side, 1, path), other))
            todo.append(([first for first, _ in pairs], depth + 1, (side, 0, path), one))
    return found


def net_along(net, degree, path):
    """The net on the triangle with this path, from the net on the first triangle."""
    steps = []
    while path:
        side, half, path = path
        steps.append((side, half))
    sides = lines_of(degree)
    for side, half in reversed(steps):
        net = halved_net(net, sides[side], degree)[half]
    return net


def is_covered(net, degree, tree):
    """Whether all corners are from 0 on on all triangles to which a tree leads."""
    sides, tips = lines_of(degree), tips_of(degree)
    todo = [(net, tree)]
    while todo:
        net, tree = todo.pop()
        # What is from 0 on stays so on each part; values at tips stay corners of some part.
        if min(net) < 0:
            if not tree or min([net[tip] for tip in tips]) < 0:
                return False
            first, second = halved_net(net, sides[tree[0]], degree)
            todo.append((first, tree[1]))
            todo.append((second, tree[2]))
    return True


def searched(nets, degree, bits):
    """For triangles with these pairs (net, bottom): one of

    (trees, None): one tree for each, such that all corners are from 0 on on all triangles to which they lead;
    (None, (index, path, tip)): which triangle, which (side, half) from there on, and which corner of the last one
    has a value below 0;
    (None, None): the least value lies from -gap to gap.
    """
    sides, tips = lines_of(degree), tips_of(degree)
    bends = bends_of(sides)
    nodes = [(net, bottom, None) for net, bottom in nets]
    cuts, queue, is_near, fresh = {}, [], False, 0
    while True:
        for place in range(fresh, len(nodes)):
            net, bottom, _ = nodes[place]
            values = [net[tip] for tip in tips]
            if min(values) < 0:
                return None, _way(nodes, cuts, place, values.index(min(values)))
            is_near = is_near or (min(values) << bits) <= bottom
            if min(net) < 0:
                heappush(queue, _rank(min(net), bottom, bits, place))
        if not queue:
            return trees_from(cuts, len(nodes), len(nets)), None
        rank, _, place = heappop(queue)
        # The least corner of all stands first. If it is from -gap on, so are all values.
        if is_near and rank == 1:
            return None, None
        fresh = len(nodes)
        side = most_bent(nodes[place][0], bends)
        cuts[place] = (side, fresh)
        _halve(nodes, place, sides[side], degree)


def _rank(least, bottom, bits, place):
    """The row by which triangles are taken: those with a corner below -gap first, then the lowest ones."""
    is_low = (least << bits) < -bottom
    return 0 if is_low else 1, (least << 64) // bottom, place


def _halve(nodes, place, lines, degree):
    """Appends both halves of a triangle to nodes, its side with these lines being halved."""
    net, bottom, ahead = nodes[place]
    for half in halved_net(net, lines, degree):
        nodes.append((half, bottom << degree, place))
    # Nets are long, and this one is used no more.
    nodes[place] = ((), bottom, ahead)


def trees_from(cuts, many, roots):
    """The trees of the first triangles, made from the last halves on."""
    found = [()] * many
    for place in reversed(range(many)):
        if place in cuts:
            side, half = cuts[place]
            found[place] = (side, found[half], found[half + 1])
    return tuple(found[:roots])


def _way(nodes, cuts, place, tip):
    """How the triangle with this index is come to."""
    path = []
    while nodes[place][2] is not None:
        ahead = nodes[place][2]
        side, half = cuts[ahead]
        path.append((side, place - half))
        place = ahead
    return place, path[::-1], tip
