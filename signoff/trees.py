"""The trees of expressions.

The functions here go through a tree without nested calls, since a chain of
operands may be thousands of levels deep.
"""


def height(tree):
    """The height of an expression."""
    heights = []
    for part in postorder(tree):
        many = len(operands(part))
        tallest = max(heights[len(heights) - many:], default=0)
        del heights[len(heights) - many:]
        heights.append(tallest + 1)
    return heights[0]


def names_in(tree):
    """The ascending list of the names in an expression."""
    return sorted({part[1] for part in postorder(tree) if part[0] == "name"})


def operands(tree):
    """The tuple of the direct parts of an expression."""
    if tree[0] == "name" or tree[0] == "const":
        return ()
    return tree[1:]


def postorder(tree):
    """The list of all parts of an expression, each behind its own parts, the left ones first."""
    found = []
    waiting = [tree]
    while waiting:
        part = waiting.pop()
        found.append(part)
        waiting.extend(operands(part))
    # Found were each part before its own parts and the right ones first: the reverse.
    return found[::-1]
