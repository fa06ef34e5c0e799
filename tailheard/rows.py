"""Rows and ends of plans: what leads to an end, two plans side by side, the least rows.

Rows are a sequence with, for each state, its pairs (sign, next); flags tell of each state whether it is an end.
Nothing here makes a Plan, so that plans can be made with it. (Nothing here changes what it is passed, for it is
used where plans are joined and looked into.)
"""

from tailheard.errors import TooMany

MOST_STATES = 60


def flags_of(many, ends):
    """For each of so many states, whether it is one of the ends."""
    flags = [False] * many
    for at in ends:
        flags[at] = True
    return flags


def ends_of(flags):
    """The ascending tuple of the ends."""
    return tuple([at for at, flag in enumerate(flags) if flag])


def hopeful(rows, flags):
    """For each state, whether an end can be reached from it."""
    sources = [[] for row in rows]
    for at, row in enumerate(rows):
        for pair in row:
            sources[pair[1]].append(at)
    found = list(flags)
    queue = list(ends_of(flags))
    while queue:
        at = queue.pop()
        for source in sources[at]:
            if not found[source]:
                found[source] = True
                queue.append(source)
    return found


def trimmed(rows, flags):
    """The rows and flags of what lies between the state 0 and an end, ordered by the least strings.

    An end must be within reach of the state 0.
    """
    hopes = hopeful(rows, flags)
    order = [0]
    number = {0: 0}
    slim = []
    while len(slim) < len(order):
        row = []
        at = order[len(slim)]
        for sign, onto in rows[at]:
            if hopes[onto]:
                if onto not in number:
                    number[onto] = len(order)
                    order.append(onto)
                row.append((sign, number[onto]))
        slim.append(row)
    return slim, [flags[at] for at in order]


def numbered(keys):
    """For each key the number of the first one that is the same, counting unlike ones alone."""
    number = {}
    for key in keys:
        if key not in number:
            number[key] = len(number)
    return [number[key] for key in keys]


def blocks_of(rows, flags):
    """For each state a number, the same for states from which the same strings lead to ends.

    TooMany as soon as there are too many: they can only become more.
    """
    blocks = numbered(flags)
    many = 0
    while many < max(blocks) + 1:
        many = max(blocks) + 1
        if many > MOST_STATES:
            raise TooMany("state")
        keys = [(blocks[at], tuple([(sign, blocks[onto]) for sign, onto in row])) for at, row in enumerate(rows)]
        blocks = numbered(keys)
    return blocks


def least_rows(rows, flags):
    """The rows and the ends of the least plan that is alike; an end must be within reach of the state 0."""
    slim, slim_flags = trimmed(rows, flags)
    blocks = blocks_of(slim, slim_flags)
    states = []
    ends = []
    for at, row in enumerate(slim):
        if blocks[at] == len(states):
            if slim_flags[at]:
                ends.append(len(states))
            states.append(tuple([(sign, blocks[onto]) for sign, onto in row]))
    return tuple(states), tuple(ends)


def moves_of(rows):
    """For each state a dict that tells for its signs where they lead."""
    return [{sign: onto for sign, onto in row} for row in rows]


def side_by_side(first, second):
    """The pairs of states to which the same strings lead, by their least strings, and the rows between them.

    `first` and `second` are the rows of both plans; a side that a string leads nowhere is None. The last of the
    three is, for each pair, the number of the one before it and the sign from there.
    """
    moves = (moves_of(first), moves_of(second))
    order = [(0, 0)]
    number = {(0, 0): 0}
    rows = []
    sources = [(0, "")]
    while len(rows) < len(order):
        one, two = order[len(rows)]
        here = {} if one is None else moves[0][one]
        there = {} if two is None else moves[1][two]
        row = []
        for sign in sorted(set(list(here) + list(there))):
            pair = (here.get(sign), there.get(sign))
            if pair not in number:
                number[pair] = len(order)
                order.append(pair)
                sources.append((len(rows), sign))
            row.append((sign, number[pair]))
        rows.append(row)
    return order, rows, sources


def text_to(sources, at):
    """The string along which the sources tell that a number was reached."""
    signs = []
    while at > 0:
        at, sign = sources[at]
        signs.append(sign)
    return "".join(signs[::-1])


def first_text(rows, flags):
    """The least string that leads from the state 0 to an end."""
    order = [0]
    texts = {0: ""}
    at = 0
    state = 0
    while not flags[state]:
        for sign, onto in rows[state]:
            if onto not in texts:
                texts[onto] = texts[state] + sign
                order.append(onto)
        at += 1
        state = order[at]
    return texts[state]


def tree_of(texts):
    """The rows and flags of a tree that bears just these strings."""
    nodes = [{}]
    found = []
    for text in texts:
        at = 0
        for sign in text:
            if sign not in nodes[at]:
                nodes[at][sign] = len(nodes)
                nodes.append({})
            at = nodes[at][sign]
        found.append(at)
    rows = [[(sign, node[sign]) for sign in sorted(node)] for node in nodes]
    return rows, flags_of(len(rows), found)


def rows_of_lots(first, onward, most, word):
    """All lots to which signs lead from the first one, and the rows between them; TooMany above the most.

    `onward` tells the pairs (sign, lot) of a lot, ascending by signs.
    """
    lots = [first]
    number = {first: 0}
    rows = []
    while len(rows) < len(lots):
        row = []
        here = lots[len(rows)]
        for sign, lot in onward(here):
            if lot not in number:
                number[lot] = len(lots)
                lots.append(lot)
            row.append((sign, number[lot]))
        if len(lots) > most:
            raise TooMany(word)
        rows.append(row)
    return lots, rows


def hopes_by_length(rows, flags, most):
    """For each number of signs up to the most, for each state whether so many signs lead to an end."""
    layers = [flags]
    while len(layers) <= most:
        last = layers[-1]
        layers.append([any([last[onto] for sign, onto in row]) for row in rows])
    return layers
