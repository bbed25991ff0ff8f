"""Reads the bytes of a set into edges, and holds them to the form."""

from packedsets.edges import add_span, count_numbers
from packedsets.form import BITS_SIZE, MOST_PARTS, PART, PLAIN_FRONT, RUNS_FRONT
from packedsets.form import front_size, is_listed, keys_place, marks_size, plain_size, runs_size, tells_places


class NotASet(ValueError):
    pass


def require(holds):
    if not holds:
        raise NotASet()


def number_at(a, place, size):
    require(place + size <= len(a))
    number = 0
    for i in range(size):
        number += a[place + i] << (8 * i)
    return number


# Keys rise and have 16 bits, so a greater count is wrong; no list that long may be made before it is refused.
def plain_marks(a):
    part_count = number_at(a, 4, 4)
    require(part_count <= MOST_PARTS)
    return [0] * part_count


def runs_marks(a, part_count):
    size = marks_size(part_count)
    require(4 + size <= len(a))
    bits = [(a[4 + i // 8] >> (i % 8)) & 1 for i in range(8 * size)]
    marks = bits[:part_count]
    require(1 in marks)
    require(1 not in bits[part_count:])
    return marks


# A mark for each part: 1 if it is runs, else 0.
def read_marks(a):
    first = number_at(a, 0, 4)
    if first == PLAIN_FRONT:
        return plain_marks(a)
    require(first % 65536 == RUNS_FRONT)
    return runs_marks(a, first // 65536 + 1)


def read_keys(a, part_count, place):
    keys = [number_at(a, place + 4 * i, 2) for i in range(part_count)]
    for i in range(1, part_count):
        require(keys[i - 1] < keys[i])
    return keys


def read_runs(a, place):
    edges = []
    end = -1
    for i in range(number_at(a, place, 2)):
        first = number_at(a, place + 2 + 4 * i, 2)
        # A run that begins just where the last one ended touches it, and should have been one with it.
        require(first > end)
        end = first + number_at(a, place + 4 + 4 * i, 2) + 1
        require(end <= PART)
        add_span(edges, first, end)
    return edges


def read_list(a, place, count):
    edges = []
    last = -1
    for i in range(count):
        number = number_at(a, place + 2 * i, 2)
        require(number > last)
        add_span(edges, number, number + 1)
        last = number
    return edges


def read_bits(a, place):
    require(place + BITS_SIZE <= len(a))
    edges = []
    inside = 0
    for i in range(BITS_SIZE):
        byte = a[place + i]
        # Most bytes of long spans and gaps have no edge, and needn't be looked at bit by bit.
        if byte == 255 * inside:
            continue
        for bit in range(8):
            if (byte >> bit) & 1 != inside:
                edges.append(8 * i + bit)
                inside = 1 - inside
    if inside == 1:
        edges.append(PART)
    return edges


def read_part(a, place, mark, count):
    if mark == 1:
        edges = read_runs(a, place)
    elif is_listed(count):
        edges = read_list(a, place, count)
    else:
        edges = read_bits(a, place)
    require(count_numbers(edges) == count)
    return edges


# Runs that were read don't touch, so there are just as many spans as runs.
def read_size(mark, count, part_edges):
    return runs_size(len(part_edges) // 2) if mark == 1 else plain_size(count)


def add_part(edges, key, part_edges):
    base = key * PART
    placed = [base + edge for edge in part_edges]
    # A span that goes on over the end of a part stays one span, without edges there.
    if len(edges) > 0 and edges[-1] == placed[0]:
        edges.pop()
        placed = placed[1:]
    edges.extend(placed)


def read_edges(a):
    marks = read_marks(a)
    part_count = len(marks)
    with_runs = 1 in marks
    head = keys_place(part_count, with_runs)
    keys = read_keys(a, part_count, head)
    place = front_size(part_count, with_runs)
    edges = []
    for i in range(part_count):
        if tells_places(part_count, with_runs):
            require(number_at(a, head + 4 * part_count + 4 * i, 4) == place)
        count = number_at(a, head + 4 * i + 2, 2) + 1
        part_edges = read_part(a, place, marks[i], count)
        add_part(edges, keys[i], part_edges)
        place += read_size(marks[i], count, part_edges)
    require(place == len(a))
    return edges
