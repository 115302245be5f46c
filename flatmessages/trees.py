"""Trees: what whole values say, with their depths and sizes."""

from flatmessages.words import BYTES, LIST, NUMBER, RECORD, own_size

DEEPEST = 8


# A tree is never changed once it is made, so one may stand in several others and in several rows.
class Tree:
    def __init__(self, kind, count, content, inner):
        self.kind = kind
        self.count = count
        self.content = content
        self.inner = inner
        self.depth = 1 + max([tree.depth for tree in inner], default=0)
        self.size = own_size(kind, count) + sum([tree.size for tree in inner])


def number_tree(high, low):
    """The number 2^32 high + low; its content is the two."""
    return Tree(NUMBER, 0, [high, low], [])


def bytes_tree(row):
    """Bytes; its content is they."""
    return Tree(BYTES, len(row), row, [])


def list_tree(inner):
    """A list of trees, in order; it has no content of its own."""
    return Tree(LIST, len(inner), [], inner)


def record_tree(keys, inner):
    """A record of trees, in order; its content is their keys."""
    return Tree(RECORD, len(keys), keys, inner)
