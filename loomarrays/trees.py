"""Trees: what is reckoned at each index of a loop."""


class Node:
    """Whatever a tree is made of."""


class Even(Node):
    """A number."""

    def __init__(self, number):
        self.number = number


class Read(Node):
    """A kept line's row at the place that is the start and each of the loop's indexes times its step."""

    def __init__(self, line, start, steps):
        self.line = line
        self.start = start
        self.steps = steps


class One(Node):
    """A deed with the number of the tree within."""

    def __init__(self, deed, inner):
        self.deed = deed
        self.inner = inner


class Both(Node):
    """A deed with the numbers of two trees."""

    def __init__(self, deed, left, right):
        self.deed = deed
        self.left = left
        self.right = right


class Where(Node):
    """The left tree where the asked one's number is not nought, else the right one."""

    def __init__(self, asked, left, right):
        self.asked = asked
        self.left = left
        self.right = right


class Within(Node):
    """The tree within where a part of a way lies from 0 to below the size, else the number."""

    def __init__(self, part, size, inner, number):
        self.part = part
        self.size = size
        self.inner = inner
        self.number = number


class Joined(Node):
    """The tree ahead where a part of a way lies below the size, else the tree behind."""

    def __init__(self, part, size, ahead, behind):
        self.part = part
        self.size = size
        self.ahead = ahead
        self.behind = behind
