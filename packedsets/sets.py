"""The calls: each takes plain values and answers one list of whole numbers."""

from packedsets.edges import compare_edges, count_numbers, count_within, edges_from, edges_of_numbers, edges_of_pairs
from packedsets.edges import edges_outside, first_numbers, first_pairs, flip_edges, join_edges, move_edges, pick_number
from packedsets.reader import NotASet, read_edges
from packedsets.writer import plan_parts, set_bytes, set_size

OUT_OF_RANGE = -2
NOT_A_SET = -3
NONE_THERE = -5
NO_ROOM = -7

MOST_ROOM = 16777216
LAST_HOW = 3
FARTHEST = 4294967296


def may_join(how):
    return 0 <= how <= LAST_HOW


def may_fill(room):
    return 0 <= room <= MOST_ROOM


def may_write(runs, room):
    return 0 <= runs <= 1 and may_fill(room)


def answer_set(edges, runs, room):
    parts = plan_parts(edges, runs)
    size = set_size(parts)
    if size > room:
        return [NO_ROOM]
    return [size] + set_bytes(parts)


def make(runs, room, x):
    if not may_write(runs, room):
        return [OUT_OF_RANGE]
    return answer_set(edges_of_numbers(x), runs, room)


def ranges(runs, room, x):
    if not may_write(runs, room):
        return [OUT_OF_RANGE]
    return answer_set(edges_of_pairs(x), runs, room)


def join(how, runs, room, a, b):
    if not may_join(how) or not may_write(runs, room):
        return [OUT_OF_RANGE]
    try:
        left = read_edges(a)
        right = read_edges(b)
    except NotASet:
        return [NOT_A_SET]
    return answer_set(join_edges(how, left, right), runs, room)


def flip(start, to, runs, room, a):
    if not may_write(runs, room):
        return [OUT_OF_RANGE]
    try:
        edges = read_edges(a)
    except NotASet:
        return [NOT_A_SET]
    return answer_set(flip_edges(edges, start, to), runs, room)


def move(by, runs, room, a):
    if not -FARTHEST <= by <= FARTHEST or not may_write(runs, room):
        return [OUT_OF_RANGE]
    try:
        edges = read_edges(a)
    except NotASet:
        return [NOT_A_SET]
    return answer_set(move_edges(edges, by), runs, room)


def count(a):
    try:
        edges = read_edges(a)
    except NotASet:
        return [NOT_A_SET]
    return [count_numbers(edges)]


def common(how, a, b):
    if not may_join(how):
        return [OUT_OF_RANGE]
    try:
        left = read_edges(a)
        right = read_edges(b)
    except NotASet:
        return [NOT_A_SET]
    return [count_numbers(join_edges(how, left, right))]


def has(x, a):
    try:
        edges = read_edges(a)
    except NotASet:
        return [NOT_A_SET]
    return [count_within(edges, x, x)]


def rank(x, a):
    try:
        edges = read_edges(a)
    except NotASet:
        return [NOT_A_SET]
    return [count_within(edges, 0, x)]


def select(i, a):
    try:
        edges = read_edges(a)
    except NotASet:
        return [NOT_A_SET]
    if i >= count_numbers(edges):
        return [NONE_THERE]
    return [pick_number(edges, i)]


def least(start, inside, a):
    if not 0 <= inside <= 1:
        return [OUT_OF_RANGE]
    try:
        edges = read_edges(a)
    except NotASet:
        return [NOT_A_SET]
    sought = edges_from(edges if inside == 1 else edges_outside(edges), start)
    return [sought[0]] if len(sought) > 0 else [NONE_THERE]


def numbers(start, room, a):
    if not may_fill(room):
        return [OUT_OF_RANGE]
    try:
        edges = read_edges(a)
    except NotASet:
        return [NOT_A_SET]
    found = first_numbers(edges_from(edges, start), room)
    return [len(found)] + found


def spans(start, room, a):
    if not may_fill(room):
        return [OUT_OF_RANGE]
    try:
        edges = read_edges(a)
    except NotASet:
        return [NOT_A_SET]
    found = first_pairs(edges_from(edges, start), room)
    return [len(found) // 2] + found


def same(a, b):
    try:
        left = read_edges(a)
        right = read_edges(b)
    except NotASet:
        return [NOT_A_SET]
    return [compare_edges(left, right)]
