"""Looking at all that can be reached from a beginning, level by level."""

from coastersafe.errors import TooLarge

WHOLE = "whole"
BROKEN = "broken"


def searched(space, first, limit):
    """A dict of all nodes in the order in which they are found, or a shortest list of steps to something bad.

    A space has three methods: `looked(node)` gives a view of what the node leads to, `bad_step(view)` the first step
    to something bad, or None, and `steps(view)` the pairs of the first step to each node and this node, by steps.
    So nodes are found in the order of the least shortest lists of steps that lead to them; the dict has for each the
    node before and the last step.
    """
    befores = {first: None}
    level = [first]
    while level:
        if len(befores) > limit:
            raise TooLarge(limit)
        following = []
        for node in level:
            view = space.looked(node)
            bad = space.bad_step(view)
            if bad is not None:
                return (BROKEN, steps_to(befores, node) + [bad])
            # Above the limit only something bad on this level still matters.
            if len(befores) <= limit:
                following.extend(_found(befores, node, space.steps(view)))
        level = following
    return (WHOLE, befores)


def _found(befores, node, steps):
    """Adds the new ones of the nodes that steps lead to, and lists them."""
    new = []
    for step, after in steps:
        if after not in befores:
            befores[after] = (node, step)
            new.append(after)
    return new


def steps_to(befores, node):
    """The steps by which a node was found."""
    backward = []
    while befores[node] is not None:
        node, step = befores[node]
        backward.append(step)
    return backward[::-1]
