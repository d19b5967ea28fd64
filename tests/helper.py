"""Calls put together and answers taken apart; records told at random; and a slow,
bit by bit model of leaves and first fits that shares no code with the program."""

from itertools import permutations

from leastroom.records import answers

WORDS = (0, 8, 16, 32, 64)
ALIGNMENTS = (1, 2, 4, 8, 16, 32)
FAR = 10 ** 18

WORKED = (
    "record R { a : from 0 to 1 ; b : from 0 to 200 at 8 ; c : from 0 to 3 ; d : from 0 to 1000 at 16 ; "
    "e : from 0 to 30 ; } record Q { p : from 0 to 1 ; q : from 0 to 1000 at 16 ; }"
)


def load(text):
    row = list(text.encode("latin-1")) if isinstance(text, str) else list(text)
    return [0, len(row)] + row


def fit(r, w, order):
    return [1, r, w, len(order)] + list(order)


def least(r, w):
    return [2, r, w]


def rule(r, w):
    return [3, r, w]


def waste(r, w):
    return [4, r, w]


def orders(r, w):
    return [5, r, w]


def judge(r, w, n, starts):
    return [6, r, w, n, len(starts)] + list(starts)


def table(w):
    return [7, w]


def split(told):
    rows = []
    at = 0
    while at < len(told):
        rows.append(told[at + 1:at + 1 + told[at]])
        assert len(rows[-1]) == told[at] > 0
        at += 1 + told[at]
    return rows


def ask(*calls):
    return split(answers([number for call in calls for number in call]))


def ask_of(text, *calls):
    return ask(load(text), *calls)[1:]


def ask_all_of(text, calls):
    """However many calls, in lists of 60 each."""
    told = []
    for at in range(0, len(calls), 59):
        told += ask_of(text, *calls[at:at + 59])
    return told


def loaded(text):
    return ask(load(text))[0]


# Shapes are ("from", V, V, A), ("maybe", T), ("many", n, T), ("one", [(x, T), ..]) and ("named", r);
# a record is (name, [(F, T, K), ..]).


def shape_words(shape, records):
    kind = shape[0]
    if kind == "from":
        ends = ["from"] + value_words(shape[1]) + ["to"] + value_words(shape[2])
        return ends + (["at", str(shape[3])] if shape[3] != 1 else [])
    if kind == "maybe":
        return ["maybe"] + shape_words(shape[1], records)
    if kind == "many":
        return ["many", str(shape[1])] + shape_words(shape[2], records)
    if kind == "named":
        return [records[shape[1]][0]]
    words = ["one", "{"]
    for number, (name, inner) in enumerate(shape[1]):
        words += ([","] if number else []) + [name, ":"] + shape_words(inner, records)
    return words + ["}"]


def value_words(value):
    return ["-", str(-value)] if value < 0 else [str(value)]


def lines_of(records):
    for name, fields in records:
        yield ["record", name, "{"]
        for field, shape, hot in fields:
            yield [field, ":"] + shape_words(shape, records) + (["hot", str(hot)] if hot != 1 else []) + [";"]
        yield ["}"]


def one_form(records):
    rows = [" ".join(words).replace(" ,", ",").replace("- ", "-") + "\n" for words in lines_of(records)]
    return "".join(rows)


def tight_text(records):
    """The text with a blank only where two tokens would else be one."""
    text = ""
    for words in lines_of(records):
        for word in words:
            joins = text and text[-1].isalnum() and word[0].isalnum()
            text += (" " if joins and not (text_ends_in_number(text) and word[0].isalpha()) else "") + word
    return text


def text_ends_in_number(text):
    run = ""
    while text and text[-1].isalnum():
        run = text[-1] + run
        text = text[:-1]
    return run.isdigit()


def told_width(codes):
    width = 1
    while 2 ** width < codes:
        width += 1
    return width


def shape_leaves(shape, records, guards, leaves):
    """Leaves are (width, alignment, {tag: code})."""
    kind = shape[0]
    if kind == "from":
        leaves.append((told_width(shape[2] - shape[1] + 1), shape[3], guards))
    elif kind == "maybe":
        tag = len(leaves)
        leaves.append((1, 1, guards))
        shape_leaves(shape[1], records, {**guards, tag: 1}, leaves)
    elif kind == "many":
        for _ in range(shape[1]):
            shape_leaves(shape[2], records, guards, leaves)
    elif kind == "one":
        tag = len(leaves)
        leaves.append((told_width(len(shape[1])), 1, guards))
        for code, (_, inner) in enumerate(shape[1]):
            shape_leaves(inner, records, {**guards, tag: code}, leaves)
    else:
        for _, inner, _ in records[shape[1]][1]:
            shape_leaves(inner, records, guards, leaves)


def leaves_of(records, r):
    leaves = []
    shape_leaves(("named", r), records, {}, leaves)
    return leaves


def together(leaf, other):
    return all(other[2].get(tag, code) == code for tag, code in leaf[2].items())


def bound_of(leaves):
    """By going through all that the tags can say: the most bits of leaves that are there at once."""
    ways = [{}]
    for number, _ in enumerate(leaves):
        codes = sorted({leaf[2][number] for leaf in leaves if number in leaf[2]})
        if codes:
            ways = [{**way, number: code} for way in ways for code in codes]
    return max(
        sum(width for width, _, guards in leaves if all(way[tag] == code for tag, code in guards.items()))
        for way in ways
    )


def model_crosses(start, width, w):
    return w > 0 and width <= w and start // w != (start + width - 1) // w


def model_start(leaves, number, starts, w):
    """Bit by bit, from bit 0 on; starts is a dict of the leaves put before."""
    width, align, _ = leaves[number]
    taken = set()
    for other, start in starts.items():
        if together(leaves[number], leaves[other]):
            taken.update(range(start, start + leaves[other][0]))
    bit = 0
    while bit % align or model_crosses(bit, width, w) or taken & set(range(bit, bit + width)):
        bit += 1
    return bit


def model_put(leaves, order, w):
    starts = {}
    for number in order:
        starts[number] = model_start(leaves, number, starts, w)
    return [starts[number] for number in range(len(leaves))]


def model_span(leaves, starts):
    return max(start + leaf[0] for start, leaf in zip(starts, leaves))


def told_layout(leaves, starts):
    span = model_span(leaves, starts)
    return [span, -(-span // 8)] + starts


def model_rule_order(leaves):
    order = list(range(len(leaves)))
    order.sort(key=lambda number: leaves[number][0], reverse=True)
    order.sort(key=lambda number: leaves[number][1], reverse=True)
    return order


def model_least(leaves, w):
    """The first order, among all in their order, that has the least span."""
    best = None
    for order in permutations(range(len(leaves))):
        starts = model_put(leaves, order, w)
        if best is None or model_span(leaves, starts) < model_span(leaves, best):
            best = starts
    return told_layout(leaves, best)


def layout_faults(leaves, size, starts, w):
    faults = []
    for number, (width, align, _) in enumerate(leaves):
        start = starts[number]
        if start < 0 or start + width > 8 * size:
            faults.append((1, number))
        if start % align:
            faults.append((2, number))
        for other in range(number):
            shared = set(range(start, start + width)) & set(range(starts[other], starts[other] + leaves[other][0]))
            if shared and together(leaves[number], leaves[other]):
                faults.append((3, number, other))
        if model_crosses(start, width, w):
            faults.append(("crosses", number))
    return faults


def model_judge(leaves, w, n, starts, least_span):
    """least_span is -1 for a record with more leaves than are tried."""
    if layout_faults(leaves, n, starts, w):
        return [0]
    span = model_span(leaves, starts)
    return [1, span, -1 if least_span == -1 else span - least_span, span - bound_of(leaves)]


def has_layout_within(leaves, span, w):
    """Whether some right layout, in which no leaf crosses a word, has at most this span: all are tried."""
    starts = {}

    def put(number):
        if number == len(leaves):
            return True
        width, align, _ = leaves[number]
        for bit in range(0, span - width + 1, align):
            clear = all(
                bit + width <= start or start + leaves[other][0] <= bit or not together(leaves[number], leaves[other])
                for other, start in starts.items()
            )
            if clear and not model_crosses(bit, width, w):
                starts[number] = bit
                if put(number + 1):
                    return True
                del starts[number]
        return False

    return put(0)


def random_number(rng, greatest_width):
    width = rng.randint(1, greatest_width)
    codes = rng.randint(2 ** (width - 1) + 1, 2 ** width) if width > 1 else rng.randint(1, 2)
    codes = min(codes, 2000001)
    low = rng.randint(max(-1000000, -codes), min(1000000 - codes + 1, codes))
    return ("from", low, low + codes - 1, rng.choice(ALIGNMENTS) if rng.random() < 0.6 else 1)


def random_shape(rng, depth, told, greatest_width):
    kind = rng.choice(["from", "from", "from", "maybe", "many", "one", "named"])
    if kind == "named" and told:
        return ("named", rng.randrange(told))
    if depth == 6 or kind in ("from", "named"):
        return random_number(rng, greatest_width)
    if kind == "maybe":
        return ("maybe", random_shape(rng, depth + 1, told, greatest_width))
    if kind == "many":
        return ("many", rng.randint(1, 3), random_shape(rng, depth + 1, told, greatest_width))
    names = rng.sample(["x", "y", "z", "Aa1", "maybe1", "q16"], rng.randint(2, 4))
    return ("one", [(name, random_shape(rng, depth + 1, told, greatest_width)) for name in names])


def random_records(rng, most_leaves, greatest_width=21):
    """One to three records, none with more leaves than told."""
    records = []
    wanted = rng.randint(1, 3)
    while len(records) < wanted:
        fields = [
            ("f" + str(number), random_shape(rng, 1, len(records), greatest_width), rng.choice([1, 1, 2, 1000]))
            for number in range(rng.randint(1, min(6, most_leaves)))
        ]
        records.append(("R" + str(len(records)), fields))
        if len(leaves_of(records, len(records) - 1)) > most_leaves:
            records.pop()
    return records


def plain_record(rng, count, greatest_width=21):
    return [("R", [("f" + str(k), random_number(rng, greatest_width), 1) for k in range(count)])]


def small_records(rng):
    """A record of numbers for each count of leaves that is tried."""
    return [("R" + str(count), plain_record(rng, count)[0][1]) for count in range(1, 7)]


def shuffled(rng, count):
    order = list(range(count))
    rng.shuffle(order)
    return order
