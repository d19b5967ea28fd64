"""Records and what their fields hold: their leaves, their bound, their one form."""


# Its guards are pairs: a tag's number, and the code that the tag has to have.
class Leaf:
    def __init__(self, width, align, guards):
        self.width = width
        self.align = align
        self.guards = guards


def bits_for(greatest_code):
    return max(1, greatest_code.bit_length())


class NumberShape:
    def __init__(self, first, last, align):
        self.first = first
        self.last = last
        self.align = align

    def leaf_count(self):
        return 1

    def bound(self):
        return bits_for(self.last - self.first)

    def grow(self, leaves, guards):
        leaves.append(Leaf(self.bound(), self.align, guards))

    def form(self):
        form = "from " + str(self.first) + " to " + str(self.last)
        if self.align != 1:
            form += " at " + str(self.align)
        return form


class MaybeShape:
    def __init__(self, inner):
        self.inner = inner

    def leaf_count(self):
        return 1 + self.inner.leaf_count()

    def bound(self):
        return 1 + self.inner.bound()

    def grow(self, leaves, guards):
        tag = len(leaves)
        leaves.append(Leaf(1, 1, guards))
        self.inner.grow(leaves, guards + [(tag, 1)])

    def form(self):
        return "maybe " + self.inner.form()


class ManyShape:
    def __init__(self, times, inner):
        self.times = times
        self.inner = inner

    def leaf_count(self):
        return self.times * self.inner.leaf_count()

    def bound(self):
        return self.times * self.inner.bound()

    def grow(self, leaves, guards):
        for turn in range(self.times):
            self.inner.grow(leaves, guards)

    def form(self):
        return "many " + str(self.times) + " " + self.inner.form()


class OneShape:
    def __init__(self, names, inners):
        self.names = names
        self.inners = inners

    def tag_width(self):
        return bits_for(len(self.inners) - 1)

    def leaf_count(self):
        return 1 + sum([inner.leaf_count() for inner in self.inners])

    def bound(self):
        return self.tag_width() + max([inner.bound() for inner in self.inners])

    def grow(self, leaves, guards):
        tag = len(leaves)
        leaves.append(Leaf(self.tag_width(), 1, guards))
        for code, inner in enumerate(self.inners):
            inner.grow(leaves, guards + [(tag, code)])

    def form(self):
        told = [name + " : " + inner.form() for name, inner in zip(self.names, self.inners)]
        return "one { " + ", ".join(told) + " }"


class NamedShape:
    def __init__(self, record):
        self.record = record

    def leaf_count(self):
        return self.record.leaf_count()

    def bound(self):
        return self.record.bound()

    def grow(self, leaves, guards):
        self.record.grow(leaves, guards)

    def form(self):
        return self.record.name


class Field:
    def __init__(self, name, shape, hot):
        self.name = name
        self.shape = shape
        self.hot = hot

    def form(self):
        if self.hot == 1:
            return self.name + " : " + self.shape.form() + " ;\n"
        return self.name + " : " + self.shape.form() + " hot " + str(self.hot) + " ;\n"


# Its leaves are made here, once, so no record is made of fields that have too many.
class Record:
    def __init__(self, name, fields):
        self.name = name
        self.fields = fields
        self.leaves = []
        self.grow(self.leaves, [])
        self.rivals = [rivals_of(self.leaves, number) for number in range(len(self.leaves))]

    def leaf_count(self):
        return len(self.leaves)

    def bound(self):
        return sum([field.shape.bound() for field in self.fields])

    def grow(self, leaves, guards):
        for field in self.fields:
            field.shape.grow(leaves, guards)

    def form(self):
        return "record " + self.name + " {\n" + "".join([field.form() for field in self.fields]) + "}\n"


# The numbers of all other leaves that may be there together with this one, so share no bit with it.
def rivals_of(leaves, number):
    rivals = []
    for other in range(len(leaves)):
        if other != number and not never_together(leaves[number], leaves[other]):
            rivals.append(other)
    return rivals


def never_together(leaf, other):
    codes = dict(other.guards)
    for tag, code in leaf.guards:
        if codes.get(tag, code) != code:
            return True
    return False
