"""Trees: whole numbers, texts (lists of bytes) and nodes of these; and how they are written."""

HEX_DIGITS = "0123456789abcdef"


class Node:
    """A tag and its parts."""

    def __init__(self, tag, parts):
        self.tag = tag
        self.parts = parts
        # Kept as the tree grows: a chain may be far deeper than calls may nest.
        self.depth = 1 + max([part_depth(part) for part in parts], default=0)


def part_depth(part):
    """How deep one part of a node is."""
    if isinstance(part, Node):
        return part.depth
    return 1


def written(tree):
    """The tree as it is written. The caller has seen that it isn't too deep to be walked by calls."""
    pieces = []
    add_written(tree, pieces)
    return "".join(pieces)


def add_written(tree, pieces):
    """Put the written tree at the end of the pieces."""
    if isinstance(tree, int):
        pieces.append(str(tree))
    elif isinstance(tree, list):
        pieces.append(written_text(tree))
    else:
        pieces.append(str(tree.tag))
        between = "("
        for part in tree.parts:
            pieces.append(between)
            add_written(part, pieces)
            between = " "
        pieces.append(")" if tree.parts else "()")


def written_text(content):
    """A text: its sign, and two digits for each byte."""
    return "'" + "".join([HEX_DIGITS[byte // 16] + HEX_DIGITS[byte % 16] for byte in content])
