"""Another way to run tables, and tables of all kinds: by the words of the document, for tests alone."""

import listing


def turned(pairs, thing):
    """What pairs make of a thing: just one of them is taken."""
    found = [pair for pair in pairs if listing.fits(pair[0], thing)]
    if len(found) != 1:
        raise AssertionError("a thing fits not just one left pattern")
    left, right, order = found[0]
    trees = [tree for part, under in zip(left[2:], thing[2:]) for tree in listing.in_holes(part, under)]
    return listing.with_trees(right, [trees[hole] for hole in order])


def back(pairs, thing):
    return turned([(right, left, [list(order).index(hole) for hole in range(len(order))])
                   for left, right, order in pairs], thing)


def nothing(lot):
    """The pairs that leave all things as they are, in the patterns of a lot."""
    return [(pattern, pattern, tuple(range(listing.holes_of(pattern)))) for pattern in lot]


def opened_pair(counts, pair, hole):
    """The pairs that do what the pair does, with its left pattern opened at this hole."""
    left, right, order = pair
    place = list(order).index(hole)
    found = []
    for one, other in zip(listing.opened(counts, left, hole), listing.opened(counts, right, place)):
        more = listing.holes_of(one) - listing.holes_of(left)
        row = [number + more if number > hole else number for number in order]
        row[place:place + 1] = range(hole, hole + more + 1)
        found.append((one, other, tuple(row)))
    return found


def told_otherwise(counts, pairs, often, chosen):
    """Pairs that do the same: so often one of them is opened, at any hole."""
    pairs = list(pairs)
    for _ in range(often):
        at = [place for place, pair in enumerate(pairs) if pair[2]]
        if not at:
            break
        pair = pairs.pop(chosen.choice(at))
        pairs += opened_pair(counts, pair, chosen.choice(pair[2]))
    chosen.shuffle(pairs)
    return pairs


def mixed(pairs, chosen):
    """The pairs with other orders, and with right patterns exchanged among those with as many holes."""
    found = []
    for holes in sorted({len(pair[2]) for pair in pairs}):
        some = [pair for pair in pairs if len(pair[2]) == holes]
        rights = [pair[1] for pair in some]
        chosen.shuffle(rights)
        found += [(pair[0], right, tuple(chosen.sample(range(holes), holes))) for pair, right in zip(some, rights)]
    return found


def some_pairs(counts, store, often, chosen):
    """Pairs of a store and itself: told by openings, and mixed."""
    return mixed(told_otherwise(counts, nothing(listing.boxes_alone(store)), often, chosen), chosen)


def step_pairs(counts, store, step):
    """The pairs of the table of a step, and the counts of the store behind it."""
    way, trees = step
    if way < 0:
        boxes = listing.Boxes(counts, store)
        boxes.do(step)
        pairs, before = step_pairs(counts, boxes.store(), (1, trees))
        if before != tuple(store):
            raise AssertionError("opening does not undo closing")
        return [(right, left, order) for left, right, order in pairs], boxes.store()
    boxes = listing.Boxes(counts, store)
    names = {pattern: boxes.row(pattern[0])[pattern[1]] for pattern in listing.boxes_alone(store)}
    going = (trees, store[trees] - 1) + ((),) * trees
    turn = boxes.do(step)
    pairs = []
    for pattern, name in names.items():
        for one in listing.opened(counts, going, 0) if pattern == going else [pattern]:
            came = boxes.told(*turn(name, one[2:]))
            pairs.append((one, came[:2] + ((),) * listing.holes_of(one), tuple(range(listing.holes_of(one)))))
    return pairs, boxes.store()
