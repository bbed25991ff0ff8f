"""Sets as edges: a list of rising numbers, of which each two in turn bound a span.

The first of the two is the span's first number, the second is the first one behind it.
Spans hold hundreds of millions of numbers in little room, so nothing here goes number by number.
"""

# A span up to the greatest number ends here, so that only what is greater is never an edge.
LIMIT = 4294967296
BEYOND = 4294967297

# Two of the hows of join.
IN_BOTH = 0
IN_JUST_ONE = 2

# For each how of join: is a number in it that is in neither, in b alone, in a alone, in both?
IN_JOINED = (
    (0, 0, 0, 1),
    (0, 1, 1, 1),
    (0, 1, 1, 0),
    (0, 0, 1, 0),
)

# How two sets may lie to one another.
APART = 0
SAME = 1
LEFT_IN_RIGHT = 2
RIGHT_IN_LEFT = 3
CROSSING = 4


# Spans come by their first numbers in order, so only the last one can be met by a new one.
def add_span(edges, first, end):
    if len(edges) > 0 and first <= edges[-1]:
        edges[-1] = max(edges[-1], end)
    else:
        edges.append(first)
        edges.append(end)


def edges_of_numbers(numbers):
    edges = []
    for number in sorted(numbers):
        add_span(edges, number, number + 1)
    return edges


# The pairs lie one behind another in one list; a pair whose first is greater has no numbers.
def edges_of_pairs(x):
    pairs = [(x[i], x[i + 1]) for i in range(0, len(x) - 1, 2)]
    edges = []
    for pair in sorted(pairs):
        if pair[0] <= pair[1]:
            add_span(edges, pair[0], pair[1] + 1)
    return edges


def count_numbers(edges):
    return sum(edges[1::2]) - sum(edges[0::2])


# i and j count the edges passed: where that is odd, one is inside a span of that set.
def join_edges(how, left, right):
    in_joined = IN_JOINED[how]
    left_edges = left + [BEYOND]
    right_edges = right + [BEYOND]
    i = 0
    j = 0
    edges = []
    at = min(left_edges[0], right_edges[0])
    while at < BEYOND:
        if left_edges[i] == at:
            i += 1
        if right_edges[j] == at:
            j += 1
        if in_joined[i % 2 * 2 + j % 2] != len(edges) % 2:
            edges.append(at)
        at = min(left_edges[i], right_edges[j])
    return edges


def count_within(edges, first, last):
    return count_numbers(join_edges(IN_BOTH, edges, edges_of_pairs([first, last])))


# A span that start lies within is cut to begin there, not left out.
def edges_from(edges, start):
    return join_edges(IN_BOTH, edges, [start, LIMIT])


def flip_edges(edges, first, last):
    return join_edges(IN_JUST_ONE, edges, edges_of_pairs([first, last]))


def edges_outside(edges):
    return join_edges(IN_JUST_ONE, edges, [0, LIMIT])


# Spans are apart by as much as before, so none comes to touch another.
def move_edges(edges, by):
    moved = []
    for i in range(0, len(edges), 2):
        first = max(edges[i] + by, 0)
        end = min(edges[i + 1] + by, LIMIT)
        if first < end:
            moved.append(first)
            moved.append(end)
    return moved


# Number i in order, of a set that has more than i.
def pick_number(edges, i):
    at = 0
    passed = 0
    while passed + edges[at + 1] - edges[at] <= i:
        passed += edges[at + 1] - edges[at]
        at += 2
    return edges[at] + i - passed


# A span may have far more numbers than there is room for, so only those that find room are told one by one.
def first_numbers(edges, room):
    found = []
    for i in range(0, len(edges), 2):
        end = min(edges[i + 1], edges[i] + room - len(found))
        found.extend(list(range(edges[i], end)))
    return found


# A pair ends with the span's last number, while the edge is the first one behind it.
def first_pairs(edges, room):
    return [edge - i % 2 for i, edge in enumerate(edges[:2 * room])]


# Spans are as long as can be, so that sets are the same just if their edges are.
def compare_edges(left, right):
    both = join_edges(IN_BOTH, left, right)
    if len(both) == 0 and len(left) > 0 and len(right) > 0:
        return APART
    if left == right:
        return SAME
    if both == left:
        return LEFT_IN_RIGHT
    if both == right:
        return RIGHT_IN_LEFT
    return CROSSING
