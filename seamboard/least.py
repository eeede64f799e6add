"""The least flips that light just some sites, and whether flips are mended by them."""

from seamboard.boards import checks, edge_count, is_whole, require_board, require_lit, seams, site_count
from seamboard.errors import BadCosts, Odd, TooMany
from seamboard.ways import MOST_LIT, SEAMS, least_joins, links_of, numbers_in

LEAST_COST = 1
MOST_COST = 99


def is_cost(thing):
    """Tell whether a thing can be what an edge costs."""
    return is_whole(thing) and LEAST_COST <= thing <= MOST_COST


def first_bad_cost(costs, many):
    """Tell the first place that keeps costs from being a tuple of many costs, or None."""
    if not isinstance(costs, tuple):
        return 0
    for place, cost in enumerate(costs):
        if place == many or not is_cost(cost):
            return place
    if len(costs) < many:
        return len(costs)
    return None


def require_costs(board, costs):
    """Refuse what is no tuple of a cost for each edge of the board, nor None."""
    if costs is None:
        return
    place = first_bad_cost(costs, edge_count(board))
    if place is not None:
        raise BadCosts(place)


def least(board, lit, *, costs=None):
    """Tell for each of SEAMS (cost, flips) of the least flips that light just these sites."""
    require_board(board)
    require_lit(board, lit)
    if len(lit) % 2 == 1:
        raise Odd("flips light an even count of sites")
    if len(lit) > MOST_LIT:
        raise TooMany("more than eight sites are lit")
    require_costs(board, costs)
    edges = edge_count(board)
    links = links_of(board, [1] * edges if costs is None else costs)
    ways = least_joins(board, links, site_count(board), lit)
    return [(cost, numbers_in(bits, edges)) for cost, bits in ways]


def unseen(board, *, costs=None):
    """Tell (cost, seams, flips) of the least flips that light nothing, but cross a seam by an odd count."""
    ways = least(board, (), costs=costs)
    crossing = [(way[0], crossed, way[1]) for crossed, way in zip(SEAMS, ways) if crossed != (0, 0)]
    # SEAMS rise, so of ways that cost as much this is the first.
    return min(crossing)


def mends(board, flips, *, costs=None):
    """Tell whether the least flips that light what these do are alike to them; None if others cost as much."""
    ways = least(board, checks(board, flips), costs=costs)
    own = SEAMS.index(seams(board, flips))
    alike = ways[own][0]
    other = min([way[0] for place, way in enumerate(ways) if place != own])
    if alike == other:
        return None
    return alike < other
