"""The least ways through a graph that join its lit nodes two by two, for each way of crossing the seams.

A link is (one node, other node, cost, place in SEAMS); a way is (cost, bits), with bit k set if it goes over link k.
"""

from heapq import heappop, heappush

from seamboard.boards import edge_ends, seams, site_count

# In this order a way behind another one crosses the seams as the places of both, joined by ^, tell.
SEAMS = ((0, 0), (0, 1), (1, 0), (1, 1))
MOST_LIT = 8


def links_of(board, costs):
    """Tell for each edge of the board the link between its sites."""
    links = []
    for edge, cost in enumerate(costs):
        one, other = edge_ends(board, edge)
        links.append((one, other, cost, SEAMS.index(seams(board, (edge,)))))
    return links


def rim_sites(board):
    """Tell the sites of the first row and of the first column."""
    columns = board[1]
    return [site for site in range(site_count(board)) if site < columns or site % columns == 0]


def steps_of(links, many):
    """Tell for each of many nodes the steps that begin there: (other node, cost, place in SEAMS, bit of the link)."""
    steps = [[] for _ in range(many)]
    for number, (one, other, cost, crossed) in enumerate(links):
        steps[one].append((other, cost, crossed, 1 << number))
        steps[other].append((one, cost, crossed, 1 << number))
    return steps


def ways_from(steps, start):
    """Tell for each node, and there for each of SEAMS, the least way from the start."""
    ways = [[None] * len(SEAMS) for _ in steps]
    queue = [(0, start, 0, 0)]
    while queue:
        cost, node, crossed, bits = heappop(queue)
        if ways[node][crossed] is not None:
            continue
        ways[node][crossed] = (cost, bits)
        for other, more, over, bit in steps[node]:
            if ways[other][crossed ^ over] is None:
                heappush(queue, (cost + more, other, crossed ^ over, bits ^ bit))
    return ways


def behind(ones, others):
    """Tell for each of SEAMS the least way that is one of the ones behind one of the others."""
    least_ways = []
    for crossed in range(len(SEAMS)):
        pairs = [(ones[own], others[own ^ crossed]) for own in range(len(SEAMS))]
        least_ways.append(min([(one[0] + other[0], one[1] ^ other[1]) for one, other in pairs]))
    return least_ways


def least_rounds(steps, starts):
    """Tell for each of SEAMS the least way that ends where it begins, at one of the starts."""
    # Rounds that cross the seams otherwise than each other meet, so several of them are one round, too.
    rounds = [ways_from(steps, start)[start] for start in starts]
    return [min([ways[crossed] for ways in rounds]) for crossed in range(len(SEAMS))]


def least_pairing(ways, rounds, lit):
    """Tell for each of SEAMS the least way that is made of ways between two lit nodes each, and of a round."""
    if not lit:
        return rounds
    first, *rest = lit
    found = []
    for place, other in enumerate(rest):
        left = rest[:place] + rest[place + 1:]
        found.append(behind(ways[first][other], least_pairing(ways, rounds, left)))
    return [min([choice[crossed] for choice in found]) for crossed in range(len(SEAMS))]


def least_joins(board, links, many, lit):
    """Tell for each of SEAMS the least way that has an odd count of links just at the lit ones of many nodes.

    The nodes begin with the sites of the board, and a round over a seam that costs the least runs over these.
    """
    steps = steps_of(links, many)
    # What crosses a seam goes through the first column or the first row.
    rounds = least_rounds(steps, rim_sites(board))
    ways = {node: ways_from(steps, node) for node in lit}
    return least_pairing(ways, rounds, lit)


def numbers_in(bits, many):
    """Tell which of the lowest many bits are set, rising."""
    return tuple([number for number in range(many) if (bits >> number) % 2 == 1])
