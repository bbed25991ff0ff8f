"""The calls: each takes plain values and answers one list of whole numbers."""

from packedsets.edges import count_numbers, count_within, edges_of_numbers, edges_of_pairs
from packedsets.edges import flip_edges, join_edges, move_edges
from packedsets.reader import NotASet, read_edges
from packedsets.writer import plan_parts, set_bytes, set_size

OUT_OF_RANGE = -2
NOT_A_SET = -3
NO_ROOM = -7

MOST_ROOM = 16777216
LAST_HOW = 3
FARTHEST = 4294967296


def may_join(how):
    return 0 <= how <= LAST_HOW


def may_write(runs, room):
    return 0 <= runs <= 1 and 0 <= room <= MOST_ROOM


def answer_set(edges, runs, room):
    parts = plan_parts(edges, runs)
    size = set_size(parts)
    if size > room:
        return [NO_ROOM]
    return [size] + set_bytes(parts)


def make(runs, room, x):
    if not may_write(runs, room):
        return [OUT_OF_RANGE]
    return answer_set(edges_of_numbers(x), runs, room)


def ranges(runs, room, x):
    if not may_write(runs, room):
        return [OUT_OF_RANGE]
    return answer_set(edges_of_pairs(x), runs, room)


def join(how, runs, room, a, b):
    if not may_join(how) or not may_write(runs, room):
        return [OUT_OF_RANGE]
    try:
        left = read_edges(a)
        right = read_edges(b)
    except NotASet:
        return [NOT_A_SET]
    return answer_set(join_edges(how, left, right), runs, room)


def flip(start, to, runs, room, a):
    if not may_write(runs, room):
        return [OUT_OF_RANGE]
    try:
        edges = read_edges(a)
    except NotASet:
        return [NOT_A_SET]
    return answer_set(flip_edges(edges, start, to), runs, room)


def move(by, runs, room, a):
    if not -FARTHEST <= by <= FARTHEST or not may_write(runs, room):
        return [OUT_OF_RANGE]
    try:
        edges = read_edges(a)
    except NotASet:
        return [NOT_A_SET]
    return answer_set(move_edges(edges, by), runs, room)


def count(a):
    try:
        edges = read_edges(a)
    except NotASet:
        return [NOT_A_SET]
    return [count_numbers(edges)]


def common(how, a, b):
    if not may_join(how):
        return [OUT_OF_RANGE]
    try:
        left = read_edges(a)
        right = read_edges(b)
    except NotASet:
        return [NOT_A_SET]
    return [count_numbers(join_edges(how, left, right))]


def has(x, a):
    try:
        edges = read_edges(a)
    except NotASet:
        return [NOT_A_SET]
    return [count_within(edges, x, x)]


def rank(x, a):
    try:
        edges = read_edges(a)
    except NotASet:
        return [NOT_A_SET]
    return [count_within(edges, 0, x)]
