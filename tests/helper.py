"""A second, plain telling of the form, number by number, for the tests to hold the program to."""

import struct

ROOM = 16777216
EMPTY = [58, 48, 0, 0, 0, 0, 0, 0]


def runs_of(lows):
    """The runs of sorted numbers, as [first, last]."""
    found = []
    for low in lows:
        if found and found[-1][1] == low - 1:
            found[-1][1] = low
        else:
            found.append([low, low])
    return found


def body(lows, as_runs):
    if as_runs:
        runs = runs_of(lows)
        return struct.pack("<H", len(runs)) + b"".join(struct.pack("<HH", f, t - f) for f, t in runs)
    if len(lows) <= 4096:
        return struct.pack("<%dH" % len(lows), *lows)
    bits = bytearray(8192)
    for low in lows:
        bits[low // 8] |= 1 << low % 8
    return bytes(bits)


def parts_of(numbers):
    parts = {}
    for number in sorted(set(numbers)):
        parts.setdefault(number >> 16, []).append(number & 65535)
    return parts


def assemble(entries):
    """A set's bytes from (key, how many, is it runs, its bytes); the places follow from these."""
    p = len(entries)
    with_runs = any(entry[2] for entry in entries)
    heads = b"".join(struct.pack("<HH", key, count - 1) for key, count, _, _ in entries)
    if with_runs:
        bits = sum(1 << i for i, entry in enumerate(entries) if entry[2])
        front = struct.pack("<I", 12347 + 65536 * (p - 1)) + bits.to_bytes((p + 7) // 8, "little") + heads
    else:
        front = struct.pack("<II", 12346, p) + heads
    if not with_runs or p >= 4:
        place = len(front) + 4 * p
        places = []
        for entry in entries:
            places.append(place)
            place += len(entry[3])
        front += struct.pack("<%dI" % p, *places)
    return list(front + b"".join(entry[3] for entry in entries))


def packed(numbers, run_keys=()):
    """The set of these numbers, in which just the parts of these keys are runs."""
    entries = []
    for key, lows in parts_of(numbers).items():
        as_runs = key in run_keys
        entries.append((key, len(lows), as_runs, body(lows, as_runs)))
    return assemble(entries)


def packed_spans(spans):
    """A set all of whose parts are runs, from rising (first, last) that don't touch."""
    parts = {}
    for first, last in spans:
        while first <= last:
            key = first >> 16
            end = min(last, key * 65536 + 65535)
            parts.setdefault(key, []).append((first & 65535, end & 65535))
            first = end + 1
    entries = []
    for key, runs in parts.items():
        written = struct.pack("<H", len(runs)) + b"".join(struct.pack("<HH", f, t - f) for f, t in runs)
        entries.append((key, sum(t - f + 1 for f, t in runs), True, written))
    return assemble(entries)


def shorter_as_runs(numbers):
    """The keys of the parts that are shorter as runs."""
    return [key for key, lows in parts_of(numbers).items() if len(body(lows, True)) < len(body(lows, False))]


def written(numbers, runs):
    """What a call that writes these numbers answers when there is room."""
    found = packed(numbers, shorter_as_runs(numbers) if runs else ())
    return [len(found)] + found


def read_body(data, count, as_runs):
    """A part's numbers and how many bytes it took, whatever else is wrong with it."""
    if as_runs:
        (n,) = struct.unpack_from("<H", data)
        lows = []
        for i in range(n):
            first, more = struct.unpack_from("<HH", data, 2 + 4 * i)
            lows.extend(range(first, first + more + 1))
        return lows, 2 + 4 * n
    if count <= 4096:
        return list(struct.unpack_from("<%dH" % count, data)), 2 * count
    if len(data) < 8192:
        raise struct.error
    return [i for i in range(65536) if data[i // 8] >> i % 8 & 1], 8192


def read_loosely(data):
    """The numbers and the keys of runs, without holding the bytes to the form."""
    (first,) = struct.unpack_from("<I", data)
    with_runs = first & 65535 == 12347
    if with_runs:
        p = (first >> 16) + 1
        heads = 4 + (p + 7) // 8
        marks = int.from_bytes(data[4:heads], "little")
    else:
        (p,) = struct.unpack_from("<I", data, 4)
        heads = 8
        marks = 0
    if p > 65536:
        raise struct.error
    place = heads + (8 * p if not with_runs or p >= 4 else 4 * p)
    numbers = []
    run_keys = []
    for i in range(p):
        key, less = struct.unpack_from("<HH", data, heads + 4 * i)
        lows, size = read_body(data[place:], less + 1, marks >> i & 1)
        numbers.extend(key * 65536 + low for low in lows)
        run_keys.extend([key] if marks >> i & 1 else [])
        place += size
    return numbers, run_keys


def model_read(a):
    """The numbers of a set, or None: it is a set if its numbers, written the same way, are the same bytes."""
    try:
        numbers, run_keys = read_loosely(bytes(a))
    except struct.error:
        return None
    if any(number > 4294967295 for number in numbers) or packed(numbers, run_keys) != a:
        return None
    return sorted(numbers)


def model_join(how, a, b):
    a = set(a)
    b = set(b)
    return (a & b, a | b, a ^ b, a - b)[how]


def model_flip(start, to, a):
    return set(a) ^ set(range(start, to + 1))


def model_move(by, a):
    return [number + by for number in a if 0 <= number + by <= 4294967295]


def model_spans(start, room, members):
    """What spans answers for these numbers, which rise."""
    pairs = runs_of([member for member in members if member >= start])[:room]
    return [len(pairs)] + [end for pair in pairs for end in pair]


def mixed_numbers(random):
    """Numbers of a few parts: sparse, dense, in spans or full."""
    numbers = []
    for key in random.sample(range(6), random.randrange(5)):
        base = 65536 * key
        kind = random.randrange(5)
        if kind == 0:
            numbers.extend(base + random.randrange(65536) for i in range(random.randrange(1, 30)))
        elif kind == 1:
            numbers.extend(range(base + random.randrange(2), base + 65536, random.randrange(2, 15)))
        elif kind == 2:
            first = random.randrange(60000)
            numbers.extend(range(base + first, base + first + random.randrange(1, 5000)))
        elif kind == 3:
            numbers.extend(range(base, base + 65536))
        else:
            numbers.extend(base + 100 * i + j for i in range(20) for j in range(random.randrange(1, 9)))
    return numbers
