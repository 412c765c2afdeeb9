"""Rows that several tests use, and the document's words told once more over Python's sets."""

CHAIN_3 = [7, 6, 4]
SQUARE = [15, 10, 12, 8]
PENTAGON = [31, 26, 20, 24, 16]
DIAMOND = [31, 18, 20, 24, 16]
CUBE = [255, 170, 204, 136, 240, 160, 192, 128]
CHAIN_8 = [255, 254, 252, 248, 240, 224, 192, 128]

# 3 and 4 are above both 1 and 2, and neither of them is the least: an order and no lattice.
CROSSED = [63, 58, 60, 40, 48, 32]
# First what is no order, then what is one.
NO_LATTICES = [
    (1, [0]), (1, [2]), (1, [3]), (2, [3, 3]), (2, [2, 2]), (2, [3, 6]), (3, [3, 6, 4]), (3, [7, 6, 12]),
    (8, [0] * 8), (8, [255] * 8), (8, [65535] * 8), (8, CUBE[:7] + [128 + 256]),
    (2, [1, 2]), (3, [5, 6, 4]), (3, [7, 2, 4]), (6, CROSSED), (8, [1 << a for a in range(8)]),
]

SMALLEST = -2147483648
LARGEST = 2147483647


def relabelled(up, to):
    """The same order, with thing a called to[a]."""
    row = [0] * len(up)
    for a, number in enumerate(up):
        row[to[a]] = sum(1 << to[b] for b in range(len(up)) if number >> b & 1)
    return row


def pairs(n, up):
    """All (a, b) where b is above a, numbers of n or more among the b too."""
    return {(a, b) for a in range(n) for b in range(16) if up[a] // 2 ** b % 2}


def told_order(n, up):
    if any(number >= 2 ** n for number in up):
        return False
    above = pairs(n, up)
    itself = all((a, a) in above for a in range(n))
    apart = all(a == b or (b, a) not in above for a, b in above)
    onward = all((a, d) in above for a, b in above for c, d in above if b == c)
    return itself and apart and onward


def told_join(n, above, a, b):
    both = {x for x in range(n) if (a, x) in above and (b, x) in above}
    least = [x for x in both if all((x, y) in above for y in both)]
    return least[0] if least else None


def told_meet(n, above, a, b):
    both = {x for x in range(n) if (x, a) in above and (x, b) in above}
    greatest = [x for x in both if all((y, x) in above for y in both)]
    return greatest[0] if greatest else None


def told_tables(n, up):
    """The meets and the joins as dicts by two things, or None where up is no lattice."""
    if not told_order(n, up):
        return None
    above = pairs(n, up)
    two = [(a, b) for a in range(n) for b in range(n)]
    meets = {(a, b): told_meet(n, above, a, b) for a, b in two}
    joins = {(a, b): told_join(n, above, a, b) for a, b in two}
    if None in meets.values() or None in joins.values():
        return None
    return meets, joins


def told_kind(n, up):
    if not told_order(n, up):
        return 0
    found = told_tables(n, up)
    if found is None:
        return 1
    meet, join = found
    above = pairs(n, up)
    things = range(n)
    three = [(a, b, c) for a in things for b in things for c in things]
    if any(join[a, meet[b, c]] != meet[c, join[a, b]] for a, b, c in three if (a, c) in above):
        return 2
    if any(meet[a, join[b, c]] != join[meet[a, b], meet[a, c]] for a, b, c in three):
        return 3

    def above_all(x):
        return all((y, x) in above for y in things)

    def below_all(x):
        return all((x, y) in above for y in things)

    if all(any(above_all(join[a, b]) and below_all(meet[a, b]) for b in things) for a in things):
        return 5
    return 4


def told_why(n, up):
    found = told_tables(n, up)
    if found is None:
        return [-1]
    meet, join = found
    above = pairs(n, up)
    answer = {2: 1, 3: 2}.get(told_kind(n, up), 0)
    if answer == 0:
        return [0]

    def fits(x, y, z):
        if answer == 1:
            return x != y and (x, y) in above and join[x, z] == join[y, z] and meet[x, z] == meet[y, z]
        two = [(x, y), (x, z), (y, z)]
        return len({x, y, z}) == 3 and all(len({table[pair] for pair in two}) == 1 for table in (meet, join))

    three = [(x, y, z) for x in range(n) for y in range(n) for z in range(n)]
    return [answer, *min(choice for choice in three if fits(*choice))]


def told_primes(n, up):
    found = told_tables(n, up)
    if found is None:
        return [-1]
    join = found[1]
    above = pairs(n, up)
    below_all = [x for x in range(n) if all((x, y) in above for y in range(n))]
    prime = {x for x in range(n) if x not in below_all and all(x in two for two, y in join.items() if x == y)}
    return [sum(2 ** x for x in prime)]


def told_sets(n, z, up):
    """All the sets that are closed downwards or are cuts, as numbers in rising order, or None where up is no order."""
    if not told_order(n, up):
        return None
    above = pairs(n, up)
    things = range(n)

    def closed(chosen):
        return all(x in chosen for x, y in above if y in chosen)

    def cut(chosen):
        bounds = {y for y in things if all((x, y) in above for x in chosen)}
        return chosen == {x for x in things if all((x, y) in above for y in bounds)}

    fits = cut if z else closed
    choices = [{x for x in things if number >> x & 1} for number in range(2 ** n)]
    return sorted(sum(2 ** x for x in chosen) for chosen in choices if fits(chosen))


def groupings(n):
    """All rows that tell of each of n things the least of the group that it's in."""
    rows = [[]]
    for x in range(n):
        rows = [row + [y] for row in rows for y in sorted(set(row)) + [x]]
    return rows


def told_groupings(n, up):
    """All that may fall together in a lattice, whatever does."""
    meet, join = told_tables(n, up)

    def fits(row):
        return all(row[table[x, z]] == row[table[row[x], z]] for x in range(n) for z in range(n)
                   for table in (meet, join))

    return [row for row in groupings(n) if fits(row)]


def told_falls(n, a, b, allowed):
    """Of the allowed groupings that put a and b together the one that puts the least together."""
    fitting = [row for row in allowed if row[a] == row[b]]
    row = [min(y for y in range(n) if all(other[x] == other[y] for other in fitting)) for x in range(n)]
    assert row in fitting
    return [len(set(row))] + row


def told_ways(n, a, b, up):
    """The steps of each way from a up to b, where up is an order."""
    above = {(x, y) for x, y in pairs(n, up) if x != y}
    steps = {(x, y) for x, y in above if not any((x, z) in above and (z, y) in above for z in range(n))}
    found = []
    begun = [[a]]
    while begun:
        way = begun.pop()
        if way[-1] == b:
            found.append(len(way) - 1)
        begun.extend(way + [y] for x, y in steps if x == way[-1])
    return found


def told_fixed(n, up, the_map):
    """Where up is a lattice and the map has n numbers."""
    above = pairs(n, up)
    if any(x >= n for x in the_map) or any((the_map[x], the_map[y]) not in above for x, y in above):
        return [-1]
    kept = {x for x in range(n) if the_map[x] == x}
    below_all = [x for x in kept if all((x, y) in above for y in kept)]
    above_all = [x for x in kept if all((y, x) in above for y in kept)]
    return below_all + above_all


def lattice_rows(n):
    """All lattices of n things among the bounded rows."""
    return [up for up in bounded_rows(n) if told_tables(n, up) is not None]


def bounded_rows(n):
    """All rows of n things where 0 is below all, n - 1 above all, and above goes to larger numbers only."""
    inner = [(a, b) for a in range(1, n - 1) for b in range(a + 1, n - 1)]
    for choice in range(2 ** len(inner)):
        up = [1 << a | 1 << (n - 1) for a in range(n)]
        up[0] = 2 ** n - 1
        for place, (a, b) in enumerate(inner):
            if choice >> place & 1:
                up[a] |= 1 << b
        yield up
