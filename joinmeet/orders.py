"""Orders of at most eight things, lattices above all.

Of which kind one is, and why no better; its tables, primes, sets closed downwards and cuts; what falls together;
ways up; what a map leaves in its place.

A row up has for each thing a the set of those above a, and a set of things is a number: the sum of 2 to the b over
its things b.
"""

MOST_THINGS = 8
REFUSAL = -1
NOT_ABOVE = -2
NO_THING = -1


def is_refused(n, up):
    return n < 1 or n > MOST_THINGS or len(up) != n


def is_thing(n, a):
    return 0 <= a and a < n


def has(things, a):
    return (things >> a) & 1 == 1


def has_all(things, others):
    return things & others == others


def is_order(n, up):
    for a in range(n):
        if up[a] >> n != 0 or not has(up[a], a):
            return False
    for a in range(n):
        for b in range(n):
            if a != b and has(up[a], b) and not fits_above(up, a, b):
                return False
    return True


def fits_above(up, a, b):
    """Tell whether b, another thing than a and above it, is so as an order asks."""
    return not has(up[b], a) and has_all(up[a], up[b])


def turned(n, up):
    """Give the row of the same order upside down: the sets of those below."""
    down = []
    for a in range(n):
        down.append(sum([1 << b for b in range(n) if has(up[b], a)]))
    return down


def least_of(n, up, things):
    """Find the one of the things that all of them are above, if there is one."""
    for a in range(n):
        if has(things, a) and has_all(up[a], things):
            return a
    return NO_THING


def join_table(n, up):
    joins = []
    for a in range(n):
        joins.append([least_of(n, up, up[a] & up[b]) for b in range(n)])
    return joins


def meet_table(n, up):
    # Upside down, the greatest below both is the least above both.
    return join_table(n, turned(n, up))


def is_lattice(meets, joins):
    for row in meets + joins:
        if NO_THING in row:
            return False
    return True


def find_tables(n, up):
    """Give the meets and the joins, or None where up is no lattice of n things."""
    if is_refused(n, up) or not is_order(n, up):
        return None
    meets = meet_table(n, up)
    joins = join_table(n, up)
    return (meets, joins) if is_lattice(meets, joins) else None


def is_modular(n, up, meets, joins):
    for a in range(n):
        for b in range(n):
            for c in range(n):
                if has(up[a], c) and joins[a][meets[b][c]] != meets[c][joins[a][b]]:
                    return False
    return True


def is_distributive(n, meets, joins):
    for a in range(n):
        for b in range(n):
            for c in range(n):
                if meets[a][joins[b][c]] != joins[meets[a][b]][meets[a][c]]:
                    return False
    return True


def over_all(n, table):
    """Give the join of all things, or by the other table their meet."""
    found = 0
    for a in range(n):
        found = table[found][a]
    return found


def is_complemented(n, meets, joins):
    bottom = over_all(n, meets)
    top = over_all(n, joins)
    for a in range(n):
        if not any([joins[a][b] == top and meets[a][b] == bottom for b in range(n)]):
            return False
    return True


def kind(n, up):
    """Tell what up is: 0 no order, 1 an order, 2 a lattice, 3 modular, 4 distributive, 5 complemented too."""
    if is_refused(n, up):
        return [REFUSAL]
    if not is_order(n, up):
        return [0]
    found = find_tables(n, up)
    if found is None:
        return [1]
    meets = found[0]
    joins = found[1]
    if not is_modular(n, up, meets, joins):
        return [2]
    if not is_distributive(n, meets, joins):
        return [3]
    if not is_complemented(n, meets, joins):
        return [4]
    return [5]


def tables(n, up):
    """Give 1, then all the meets and all the joins; 0 where up is no lattice."""
    if is_refused(n, up):
        return [REFUSAL]
    found = find_tables(n, up)
    if found is None:
        return [0]
    answer = [1]
    for row in found[0] + found[1]:
        answer.extend(row)
    return answer


def first_not_modular(n, up, meets, joins):
    """Find the first a, c, b by which it's seen that a lattice isn't modular; none where it is."""
    for a in range(n):
        for c in range(n):
            if a == c or not has(up[a], c):
                continue
            for b in range(n):
                if joins[a][b] == joins[c][b] and meets[a][b] == meets[c][b]:
                    return [a, c, b]
    return []


def all_alike(table, a, b, c):
    return table[a][b] == table[a][c] and table[a][b] == table[b][c]


def first_not_distributive(n, meets, joins):
    """Find the first three by which it's seen that a modular lattice isn't distributive; none where it is."""
    # What's asked of the three doesn't hang on their order, so the first of them are in rising order.
    for a in range(n):
        for b in range(a + 1, n):
            for c in range(b + 1, n):
                if all_alike(joins, a, b, c) and all_alike(meets, a, b, c):
                    return [a, b, c]
    return []


def why(n, up):
    """Give 0 for a distributive lattice; else 1 or 2 and the three things by which it's seen that it's none."""
    found = find_tables(n, up)
    if found is None:
        return [REFUSAL]
    meets = found[0]
    joins = found[1]
    if not is_modular(n, up, meets, joins):
        return [1] + first_not_modular(n, up, meets, joins)
    if not is_distributive(n, meets, joins):
        return [2] + first_not_distributive(n, meets, joins)
    return [0]


def is_prime(n, joins, a):
    """Tell whether a, another thing than the one below all, is the join only of itself and others."""
    others = [b for b in range(n) if b != a]
    for b in others:
        for c in others:
            if joins[b][c] == a:
                return False
    return True


def primes(n, up):
    """Give the set of the primes of a lattice."""
    found = find_tables(n, up)
    if found is None:
        return [REFUSAL]
    bottom = over_all(n, found[0])
    return [sum([1 << a for a in range(n) if a != bottom and is_prime(n, found[1], a)])]


def is_closed_downwards(n, down, things):
    for a in range(n):
        if has(things, a) and not has_all(things, down[a]):
            return False
    return True


def above_all_of(n, up, things):
    """Give the set of what's above all of the things, or by the row upside down of what's below."""
    found = (1 << n) - 1
    for a in range(n):
        if has(things, a):
            found = found & up[a]
    return found


def is_cut(n, up, down, things):
    return above_all_of(n, down, above_all_of(n, up, things)) == things


def sets(n, z, i, up):
    """Count the sets that are closed downwards, or the cuts where z isn't 0, and give the one behind i smaller ones."""
    if is_refused(n, up) or not is_order(n, up) or i < 0:
        return [REFUSAL]
    down = turned(n, up)
    if z == 0:
        found = [things for things in range(1 << n) if is_closed_downwards(n, down, things)]
    else:
        found = [things for things in range(1 << n) if is_cut(n, up, down, things)]
    return [len(found)] + found[i:i + 1]


def fall_together(n, both_tables, a, b):
    """Give of each thing the least that it falls together with, if a and b do."""
    least = list(range(n))
    to_do = [(a, b)]
    while len(to_do) > 0:
        pair = to_do.pop()
        low = min(least[pair[0]], least[pair[1]])
        high = max(least[pair[0]], least[pair[1]])
        if low == high:
            continue
        least = [low if x == high else x for x in least]
        # Each table's row has the joins, or the meets, with every third thing.
        for table in both_tables:
            to_do.extend(list(zip(table[pair[0]], table[pair[1]])))
    return least


def falls(n, a, b, up):
    """Count the things that are left if a and b fall together, and tell what falls together."""
    found = find_tables(n, up)
    if found is None or not is_thing(n, a) or not is_thing(n, b):
        return [REFUSAL]
    least = fall_together(n, found, a, b)
    left = [x for x in range(n) if least[x] == x]
    return [len(left)] + least


def is_step(up, down, a, b):
    """Tell whether b is above a, another thing than a, and none is between them."""
    return a != b and up[a] & down[b] == (1 << a) + (1 << b)


def one_step_up(n, up, down, things):
    """Give the set of what's one step above some of the things."""
    found = 0
    for a in range(n):
        if has(things, a):
            found = found | sum([1 << b for b in range(n) if is_step(up, down, a, b)])
    return found


def step_counts(n, up, a, b):
    """Give how many steps the ways from a up to b have, in rising order."""
    down = turned(n, up)
    counts = []
    steps = 0
    reached = 1 << a
    while reached != 0:
        if has(reached, b):
            counts.append(steps)
        reached = one_step_up(n, up, down, reached)
        steps = steps + 1
    return counts


def ways(n, a, b, up):
    """Give the fewest and the most steps of the ways from a up to b."""
    if is_refused(n, up) or not is_order(n, up) or not is_thing(n, a) or not is_thing(n, b):
        return [REFUSAL]
    if not has(up[a], b):
        return [NOT_ABOVE]
    counts = step_counts(n, up, a, b)
    return [counts[0], counts[-1]]


def keeps_above(n, up, the_map):
    """Tell whether the map takes what's above a thing to what's above where that is taken."""
    for a in range(n):
        for b in range(n):
            if has(up[a], b) and not has(up[the_map[a]], the_map[b]):
                return False
    return True


def is_fitting_map(n, up, the_map):
    if len(the_map) != n or not all([is_thing(n, b) for b in the_map]):
        return False
    return keeps_above(n, up, the_map)


def fixed(n, up, the_map):
    """Give the one below all and the one above all of the things that the map takes to themselves."""
    if find_tables(n, up) is None or not is_fitting_map(n, up, the_map):
        return [REFUSAL]
    # In a lattice such a map leaves something in its place, and of what it leaves there one is below and one above all.
    kept = sum([1 << a for a in range(n) if the_map[a] == a])
    return [least_of(n, up, kept), least_of(n, turned(n, up), kept)]
