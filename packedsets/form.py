"""The measures of the packed form, which reading and writing share."""

PLAIN_FRONT = 12346
RUNS_FRONT = 12347
PART = 65536
MOST_PARTS = 65536
MOST_LISTED = 4096
BITS_SIZE = 8192
FEWEST_WITH_PLACES = 4


def is_listed(count):
    return count <= MOST_LISTED


# Plain is what is not runs: which of the two other forms it is, the count alone tells.
def plain_size(count):
    return 2 * count if is_listed(count) else BITS_SIZE


def runs_size(run_count):
    return 2 + 4 * run_count


def marks_size(part_count):
    return (part_count + 7) // 8


# From here on stand, for each part in turn, its key and how many it has.
def keys_place(part_count, with_runs):
    return 4 + marks_size(part_count) if with_runs else 8


def tells_places(part_count, with_runs):
    return not with_runs or part_count >= FEWEST_WITH_PLACES


def front_size(part_count, with_runs):
    entry = 8 if tells_places(part_count, with_runs) else 4
    return keys_place(part_count, with_runs) + entry * part_count
