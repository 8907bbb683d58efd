"""Walks chains step by step, by a listing of boxes."""

import listing
from sevenasone.chains import Chain, Led
from sevenasone.check_chains import shows_led
from sevenasone.things import is_thing


def some_trees(counts):
    """A tree for each knot, with the least and with the last ones without parts, and a deeper one."""
    last = (0, counts[0] - 1)
    found = [(m, c) + (leaf,) * m for m, many in enumerate(counts) for c in range(many) for leaf in ((0, 0), last)]
    return found + [found[-1][:2] + (found[-1],) * found[-1][0]]


def some_things(counts, store):
    """Some things of the store: of the first and the last boxes with as many trees, with any trees ahead or behind."""
    found = []
    for trees, boxes in enumerate(store):
        for index in sorted({0, boxes // 2, boxes - 1}) if boxes else ():
            for place, tree in enumerate(some_trees(counts)[:12]):
                row = [(0, 0)] * trees
                if trees:
                    row[0 if place % 2 else (place // 2) % trees] = tree
                found.append((trees, index) + tuple(row))
    return found[::1 + len(found) // 40]


def walk(case, chain, begin, end):
    """The chain leads from begin to end, each of its steps can be done, and its things go there and come back."""
    case.assertIs(type(chain), Chain)
    case.assertEqual((chain.begin, chain.end), (begin, end))
    counts = chain.rule.counts
    case.assertIs(shows_led(chain.rule, begin, end, Led(chain.steps)), True)
    if begin.many > 10 ** 5:
        return
    boxes = listing.Boxes(counts, begin.counts)
    things = some_things(counts, begin.counts)
    named = [boxes.named(thing) for thing in things]
    for step in chain.steps:
        case.assertIsNotNone(boxes.goes(step))
        turned = boxes.do(step)
        named = [turned(*pair) for pair in named]
    case.assertEqual(boxes.store(), end.counts)
    case.assertEqual(len(chain.stores()), len(chain.steps) + 1)
    for thing, pair in zip(things, named):
        came = chain.run(thing)
        case.assertEqual(came, boxes.told(*pair))
        case.assertTrue(is_thing(chain.rule, end, came))
        case.assertEqual(chain.back(came), thing)
    for thing in some_things(counts, end.counts):
        case.assertEqual(chain.run(chain.back(thing)), thing)
