"""Writes a set's edges as bytes."""

from packedsets.edges import count_numbers
from packedsets.form import BITS_SIZE, PART, PLAIN_FRONT, RUNS_FRONT
from packedsets.form import front_size, is_listed, marks_size, plain_size, runs_size, tells_places


class Part:
    def __init__(self, key):
        self.key = key
        self.edges = []
        self.as_runs = False


# A span may go over the ends of parts, and is cut there.
def cut_into_parts(edges):
    parts = []
    for i in range(0, len(edges), 2):
        first = edges[i]
        while first < edges[i + 1]:
            key = first // PART
            base = key * PART
            end = min(edges[i + 1], base + PART)
            if len(parts) == 0 or parts[-1].key != key:
                parts.append(Part(key))
            parts[-1].edges.append(first - base)
            parts[-1].edges.append(end - base)
            first = end
    return parts


def size_as_runs(part):
    return runs_size(len(part.edges) // 2)


def size_as_plain(part):
    return plain_size(count_numbers(part.edges))


def plan_parts(edges, runs):
    parts = cut_into_parts(edges)
    if runs == 1:
        for part in parts:
            part.as_runs = size_as_runs(part) < size_as_plain(part)
    return parts


def has_runs(parts):
    return any([part.as_runs for part in parts])


def part_size(part):
    return size_as_runs(part) if part.as_runs else size_as_plain(part)


# A set may be far too large to be written, so its size is found without writing it.
def set_size(parts):
    return front_size(len(parts), has_runs(parts)) + sum([part_size(part) for part in parts])


def number_bytes(number, size):
    return [(number >> (8 * i)) & 255 for i in range(size)]


def numbers_within(part):
    numbers = []
    for i in range(0, len(part.edges), 2):
        numbers.extend(list(range(part.edges[i], part.edges[i + 1])))
    return numbers


def runs_bytes(part):
    written = number_bytes(len(part.edges) // 2, 2)
    for i in range(0, len(part.edges), 2):
        first = part.edges[i]
        written.extend(number_bytes(first, 2))
        written.extend(number_bytes(part.edges[i + 1] - first - 1, 2))
    return written


def list_bytes(part):
    written = []
    for number in numbers_within(part):
        written.extend(number_bytes(number, 2))
    return written


def bits_bytes(part):
    written = [0] * BITS_SIZE
    for number in numbers_within(part):
        written[number // 8] += 1 << (number % 8)
    return written


def part_bytes(part):
    if part.as_runs:
        return runs_bytes(part)
    if is_listed(count_numbers(part.edges)):
        return list_bytes(part)
    return bits_bytes(part)


def marks_bytes(parts):
    written = [0] * marks_size(len(parts))
    for i, part in enumerate(parts):
        if part.as_runs:
            written[i // 8] += 1 << (i % 8)
    return written


def first_bytes(parts):
    if has_runs(parts):
        return number_bytes(RUNS_FRONT + 65536 * (len(parts) - 1), 4) + marks_bytes(parts)
    return number_bytes(PLAIN_FRONT, 4) + number_bytes(len(parts), 4)


def keys_bytes(parts):
    written = []
    for part in parts:
        written.extend(number_bytes(part.key, 2))
        written.extend(number_bytes(count_numbers(part.edges) - 1, 2))
    return written


def places_bytes(parts):
    written = []
    place = front_size(len(parts), has_runs(parts))
    for part in parts:
        written.extend(number_bytes(place, 4))
        place += part_size(part)
    return written


def set_bytes(parts):
    written = first_bytes(parts) + keys_bytes(parts)
    if tells_places(len(parts), has_runs(parts)):
        written.extend(places_bytes(parts))
    for part in parts:
        written.extend(part_bytes(part))
    return written
