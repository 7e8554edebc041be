"""What the tests compare with: every plan and every region of a basin, tried one by one.

Nothing here is taken from the package.
"""

import itertools
import random


def cells(basin):
    months, sites = basin
    return [(s, m) for m in range(months) for s in range(len(sites))]


def number_of(basin, name):
    return [site[0] for site in basin[1]].index(name)


def all_claims(basin, rights):
    """Triples (claim, cell, size) in the order of c5."""
    months, sites = basin
    found = []
    for r, (_, place, demands) in enumerate(rights):
        for m in range(months):
            found.append((("right", r, m), (number_of(basin, place), m), demands[m]))
    for s in range(len(sites)):
        found.append((("room", s), (s, months - 1), sites[s][4]))
    return found


def right_plans(basin, rights):
    """Every right plan of a basin."""
    months, sites = basin
    order = cells(basin)
    places = [number_of(basin, right[1]) for right in rights]
    given = [[0] * months for _ in rights]
    released = [[0] * months for _ in sites]
    stored = [[0] * months for _ in sites]
    stock = {(s, m): sites[s][6][m] + (sites[s][5] if m == 0 else 0) for s, m in order}

    def walk(k):
        if k == len(order):
            yield tuple(tuple(tuple(row) for row in rows) for rows in (given, released, stored))
            return
        s, m = order[k]
        here = [r for r, place in enumerate(places) if place == s]
        _, lower, travel, reach, room, _, _ = sites[s]
        water = stock[s, m]
        for shares in itertools.product(*[range(min(rights[r][2][m], water) + 1) for r in here]):
            left = water - sum(shares)
            if left < 0:
                continue
            for r, share in zip(here, shares):
                given[r][m] = share
            most = 0 if lower is None else left if reach is None else min(reach, left)
            for down in range(most + 1):
                released[s][m] = down
                arrives = None
                if lower is not None and m + travel < months:
                    arrives = (number_of(basin, lower), m + travel)
                    stock[arrives] += down
                for store in range(min(room, left - down) + 1):
                    stored[s][m] = store
                    if m + 1 < months:
                        stock[s, m + 1] += store
                    yield from walk(k + 1)
                    if m + 1 < months:
                        stock[s, m + 1] -= store
                if arrives:
                    stock[arrives] -= down

    yield from walk(0)


def random_plan(luck, basin, rights):
    """One right plan, cell by cell by luck: it may spill, let down too late, and keep what rights lack."""
    months, sites = basin
    given, released, stored = ([[0] * months for _ in rows] for rows in (rights, sites, sites))
    stock = {(s, m): sites[s][6][m] + (sites[s][5] if m == 0 else 0) for s, m in cells(basin)}
    for s, m in cells(basin):
        _, lower, travel, reach, room, _, _ = sites[s]
        left = stock[s, m]
        # all is spilled, or each use takes a part of what is left, or as much as it can
        share = luck.choice((0, 1, 1, 2))
        wants = [(given[r], rights[r][2][m]) for r in range(len(rights)) if number_of(basin, rights[r][1]) == s]
        wants.append((released[s], 0 if lower is None else left if reach is None else reach))
        wants.append((stored[s], room))
        for row, most in wants if share else []:
            row[m] = min(most, left) if share == 2 else luck.randint(0, min(most, left))
            left -= row[m]
        if m + 1 < months:
            stock[s, m + 1] += stored[s][m]
        if lower is not None and m + travel < months:
            stock[number_of(basin, lower), m + travel] += released[s][m]
    return tuple(tuple(tuple(row) for row in rows) for rows in (given, released, stored))


def given_to_claims(basin, rights, plan):
    """What a plan gives each claim."""
    deliveries, _, storages = plan
    amounts = [amount for row in deliveries for amount in row]
    return tuple(amounts + [row[-1] for row in storages])


def place_in_line(plan):
    """What the order of o1 compares."""
    _, releases, storages = plan
    return ([list(month) for month in zip(*releases)], [list(month) for month in zip(*storages)])


def all_regions(basin):
    every = cells(basin)
    for size in range(1, len(every) + 1):
        yield from itertools.combinations(every, size)


def limit_of(basin, region):
    """The supply of a region and what can enter it together; None if it is open."""
    months, sites = basin
    inside = set(region)
    total = 0
    for s, m in region:
        total += sites[s][6][m]
        if m == 0:
            total += sites[s][5]
        elif (s, m - 1) not in inside:
            total += sites[s][4]
        for u, above in enumerate(sites):
            if above[1] == sites[s][0] and m - above[2] >= 0 and (u, m - above[2]) not in inside:
                if above[3] is None:
                    return None
                total += above[3]
    return total


def greatest_by_regions(basin, rights):
    """The greatest deliveries, by the least that any region leaves the first k claims."""
    claims = all_claims(basin, rights)
    limits = {(): 0}
    for region in all_regions(basin):
        limit = limit_of(basin, region)
        if limit is not None:
            limits[region] = limit
    sums = [0]
    for k in range(1, len(claims) + 1):
        sums.append(min(
            limit + sum(size for _, cell, size in claims[:k] if cell not in region)
            for region, limit in limits.items()
        ))
    return tuple(after - before for before, after in zip(sums, sums[1:]))


def all_water(basin):
    return sum(site[5] + sum(site[6]) for site in basin[1])


def rows_of(basin, rights, amounts):
    """For each right the amounts of its claims."""
    months = basin[0]
    return tuple(amounts[r * months:(r + 1) * months] for r in range(len(rights)))


def deliveries_by_regions(basin, rights):
    """For each right its greatest deliveries."""
    return rows_of(basin, rights, greatest_by_regions(basin, rights))


def all_served(basin, rights):
    """Whether no claim of a right is short: no region lacks what the rights in it demand."""
    claims = [(cell, size) for claim, cell, size in all_claims(basin, rights) if claim[0] == "right"]
    for region in all_regions(basin):
        limit = limit_of(basin, region)
        if limit is not None and sum(size for cell, size in claims if cell in region) > limit:
            return False
    return True


def with_room(basin, name, room):
    """The basin with another room of a site."""
    months, sites = basin
    return months, tuple(site[:4] + (room if site[0] == name else site[4],) + site[5:] for site in sites)


def with_inflows(basin, table):
    """The basin with the inflows of a table."""
    months, sites = basin
    return months, tuple(site[:6] + (tuple(row),) for site, row in zip(sites, table))


def waste_by_cells(basin, rights, plan):
    """For each cell what a right plan spills there, and lets down so that it never arrives."""
    months, sites = basin
    deliveries, releases, storages = plan
    left = {(s, m): sites[s][6][m] + (storages[s][m - 1] if m else sites[s][5]) for s, m in cells(basin)}
    wasted = {}
    for s, m in cells(basin):
        name, lower, travel = sites[s][:3]
        down = releases[s][m]
        wasted[s, m] = 0
        if lower is not None and m + travel < months:
            left[number_of(basin, lower), m + travel] += down
        else:
            wasted[s, m] = down
        given = sum(row[m] for row, right in zip(deliveries, rights) if right[1] == name)
        left[s, m] -= given + down + storages[s][m]
    return {cell: wasted[cell] + left[cell] for cell in left}


def surplus_of(basin, rights, region):
    """The surplus of a region, by all that can leave it on any way; None if it runs off."""
    months, sites = basin
    water = {(s, m): sites[s][6][m] + (0 if m else sites[s][5]) for s, m in cells(basin)}
    limits = []
    for s, m in cells(basin):
        _, lower, travel, reach, room, _, _ = sites[s]
        ways = [((s, m + 1), room)]
        if lower is not None:
            ways.append(((number_of(basin, lower), m + travel), reach))
        limits += [limit for end, limit in ways if (s, m) in region and end in water and end not in region]
    if None in limits:
        return None
    claimed = sum(size for _, cell, size in all_claims(basin, rights) if cell in region)
    return sum(water[cell] for cell in region) - claimed - sum(limits)


def exhausted_regions(basin, rights, amounts, k):
    """Every region that is exhausted at the claim with the number k."""
    claims = all_claims(basin, rights)
    found = []
    for region in all_regions(basin):
        if claims[k][1] in region:
            used = sum(amount for (_, cell, _), amount in zip(claims[:k + 1], amounts) if cell in region)
            if used == limit_of(basin, region):
                found.append(region)
    return found


def random_basin(luck, months, count, most):
    """A basin of so many months and sites, with a few units of water in it, and rights."""
    names = "abcd"[:count]
    sites = []
    for s, name in enumerate(names):
        lower, travel, reach = None, 0, None
        if s < count - 1:
            lower = luck.choice(names[s + 1:])
            travel = luck.choice((0, 0, 1, 2))
            reach = luck.choice((None, None, 0, 1, 2, 3))
        room = luck.choice((0, 0, 1, 2, 3))
        inflows = [0] * months
        for _ in range(most // count if lower else 1):
            inflows[luck.randrange(months)] += luck.choice((0, 1, 1, 2) if lower else (0, 1))
        sites.append((name, lower, travel, reach, room, luck.randint(0, min(room, 1)), tuple(inflows)))
    rights = []
    for name in "wxyz"[:luck.choice((0, 1, 2, 2, 3))]:
        demands = tuple(luck.choice((0, 1, 1, 2, 3)) for _ in range(months))
        rights.append((name, luck.choice(names + names[-1]), demands))
    return (months, tuple(sites)), tuple(rights)


def small_rivers(seed, many, least_plans=20, most_plans=6000):
    """Triples (basin, rights, every right plan) of basins that have few of them."""
    luck = random.Random(seed)
    found = []
    while len(found) < many:
        months, count = luck.choice(((2, 1), (4, 1), (1, 3), (2, 2), (3, 2), (4, 2), (2, 3), (3, 3), (1, 4), (2, 4)))
        basin, rights = random_basin(luck, months, count, 8)
        plans = list(itertools.islice(right_plans(basin, rights), most_plans + 1))
        if least_plans <= len(plans) <= most_plans:
            found.append((basin, rights, plans))
    return found


def middle_rivers(seed, many):
    """Pairs (basin, rights) with more water and at most 9 cells."""
    luck = random.Random(seed)
    return [random_basin(luck, *luck.choice(((3, 3), (4, 2), (2, 4))), 12) for _ in range(many)]
