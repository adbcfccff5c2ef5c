"""The products of kinds: the finitely many tables of all their chains."""

from cutrelays.errors import TooMany
from cutrelays.graphs import WORDS, check_kinds
from cutrelays.relays import led
from cutrelays.standings import bounds_of, standings

MOST_PRODUCTS = 60


def products(kinds):
    """Return for each product the shortest chain of kinds that has it, the least one of these, ascending."""
    chains, _ = _worked_out(kinds)
    return chains


def product_of(kinds, places):
    """Return the place of the product of a chain of kinds in the list of products."""
    _, behind = _worked_out(kinds)
    return _gone_on(behind, 0, places)


def multiplication(kinds):
    """Return for each product the list of the places of its products with all products behind it."""
    chains, behind = _worked_out(kinds)
    return [[_gone_on(behind, place, chain) for chain in chains] for place in range(len(chains))]


def power_of(kinds, place, n):
    """Return the place of the product of n relays of one kind."""
    _, behind = _worked_out(kinds)
    path, seen = [0], {0: 0}
    while len(path) <= n:
        product = behind[path[-1]][place]
        if product in seen:
            # From here on the powers go round for ever.
            ahead = seen[product]
            return path[ahead + (n - ahead) % (len(path) - ahead)]
        seen[product] = len(path)
        path.append(product)
    return path[n]


def _gone_on(behind, product, places):
    for place in places:
        product = behind[product][place]
    return product


def _worked_out(kinds):
    # The chains of the products, and for each product the list of the places of those with each kind behind it.
    # A chain's table tells that of the chain with one kind more, so only chains that are the first with their table
    # are made longer.
    check_kinds(kinds)
    sendings = standings(bounds_of(kinds))
    outs, words = _steps(kinds, sendings)
    empty = (tuple(range(1, len(sendings) + 1)), (0,) * len(sendings))
    chains, rows, places, behind = [()], [empty], {empty: 0}, []
    while len(behind) < len(chains):
        at = len(behind)
        after = []
        for place in range(len(kinds)):
            row = _row_behind(rows[at], outs[place], words[place])
            if row not in places:
                if len(chains) == MOST_PRODUCTS:
                    raise TooMany(MOST_PRODUCTS)
                places[row] = len(chains)
                chains.append(chains[at] + (place,))
                rows.append(row)
            after.append(places[row])
        behind.append(after)
    return (chains, behind)


def _row_behind(row, outs, words):
    # A row is a table: the number of what comes out for each standing, and its words as bits.
    come, told = row
    return (tuple([outs[number] for number in come]), tuple([old | words[number] for old, number in zip(told, come)]))


def _steps(kinds, sendings):
    # Sendings have numbers, None has 0; for each kind, by these numbers, what it sends on and its words as bits.
    found = [None] + sendings
    numbers = {sending: number for number, sending in enumerate(found)}
    outs, words = [[0] for _ in kinds], [[0] for _ in kinds]
    at = 1
    while at < len(found):
        for place, kind in enumerate(kinds):
            out, told = led(kind, found[at])
            if out not in numbers:
                numbers[out] = len(found)
                found.append(out)
            outs[place].append(numbers[out])
            words[place].append(sum([1 << WORDS.index(word) for word in told]))
        at += 1
    return (outs, words)
