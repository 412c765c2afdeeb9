"""Rows that several tests use, and the document's words told once more over Python's sets."""

CHAIN_3 = [7, 6, 4]
SQUARE = [15, 10, 12, 8]
PENTAGON = [31, 26, 20, 24, 16]
DIAMOND = [31, 18, 20, 24, 16]
CUBE = [255, 170, 204, 136, 240, 160, 192, 128]
CHAIN_8 = [255, 254, 252, 248, 240, 224, 192, 128]

SMALLEST = -2147483648
LARGEST = 2147483647


def relabelled(up, to):
    """The same order, with thing a called to[a]."""
    row = [0] * len(up)
    for a, number in enumerate(up):
        row[to[a]] = sum(1 << to[b] for b in range(len(up)) if number >> b & 1)
    return row


def pairs(n, up):
    """All (a, b) where b is above a, numbers of n or more among the b too."""
    return {(a, b) for a in range(n) for b in range(16) if up[a] // 2 ** b % 2}


def told_order(n, up):
    if any(number >= 2 ** n for number in up):
        return False
    above = pairs(n, up)
    itself = all((a, a) in above for a in range(n))
    apart = all(a == b or (b, a) not in above for a, b in above)
    onward = all((a, d) in above for a, b in above for c, d in above if b == c)
    return itself and apart and onward


def told_join(n, above, a, b):
    both = {x for x in range(n) if (a, x) in above and (b, x) in above}
    least = [x for x in both if all((x, y) in above for y in both)]
    return least[0] if least else None


def told_meet(n, above, a, b):
    both = {x for x in range(n) if (x, a) in above and (x, b) in above}
    greatest = [x for x in both if all((y, x) in above for y in both)]
    return greatest[0] if greatest else None


def told_tables(n, up):
    """The meets and the joins as dicts by two things, or None where up is no lattice."""
    if not told_order(n, up):
        return None
    above = pairs(n, up)
    two = [(a, b) for a in range(n) for b in range(n)]
    meets = {(a, b): told_meet(n, above, a, b) for a, b in two}
    joins = {(a, b): told_join(n, above, a, b) for a, b in two}
    if None in meets.values() or None in joins.values():
        return None
    return meets, joins


def told_kind(n, up):
    if not told_order(n, up):
        return 0
    found = told_tables(n, up)
    if found is None:
        return 1
    meet, join = found
    above = pairs(n, up)
    things = range(n)
    three = [(a, b, c) for a in things for b in things for c in things]
    if any(join[a, meet[b, c]] != meet[c, join[a, b]] for a, b, c in three if (a, c) in above):
        return 2
    if any(meet[a, join[b, c]] != join[meet[a, b], meet[a, c]] for a, b, c in three):
        return 3

    def above_all(x):
        return all((y, x) in above for y in things)

    def below_all(x):
        return all((x, y) in above for y in things)

    if all(any(above_all(join[a, b]) and below_all(meet[a, b]) for b in things) for a in things):
        return 5
    return 4


def bounded_rows(n):
    """All rows of n things where 0 is below all, n - 1 above all, and above goes to larger numbers only."""
    inner = [(a, b) for a in range(1, n - 1) for b in range(a + 1, n - 1)]
    for choice in range(2 ** len(inner)):
        up = [1 << a | 1 << (n - 1) for a in range(n)]
        up[0] = 2 ** n - 1
        for place, (a, b) in enumerate(inner):
            if choice >> place & 1:
                up[a] |= 1 << b
        yield up
