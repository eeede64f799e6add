"""The board: its sites, its edges, what flips light and which seams they cross."""

from seamboard.errors import BadBoard, BadFlips, BadLit

LEAST_SIDE = 2
MOST_SIDE = 5


def is_whole(thing):
    """Tell whether a thing is a whole number."""
    # Python takes True and False for numbers; the document doesn't.
    return isinstance(thing, int) and not isinstance(thing, bool)


def is_side(thing):
    """Tell whether a thing can be a side of a board."""
    return is_whole(thing) and LEAST_SIDE <= thing <= MOST_SIDE


def require_board(board):
    """Refuse what is no board."""
    if not isinstance(board, tuple) or len(board) != 2:
        raise BadBoard("a board is a pair (rows, columns)")
    if not is_side(board[0]) or not is_side(board[1]):
        raise BadBoard("a side of a board is a whole number from 2 to 5")


def first_misplaced(things, many):
    """Tell the first place that keeps things from being a rising tuple of numbers below many, or None."""
    if not isinstance(things, tuple):
        return 0
    lowest = 0
    for place, thing in enumerate(things):
        if not is_whole(thing) or thing < lowest or thing >= many:
            return place
        lowest = thing + 1
    return None


def require_flips(board, flips):
    """Refuse what is no rising tuple of edges of the board."""
    place = first_misplaced(flips, edge_count(board))
    if place is not None:
        raise BadFlips(place)


def require_lit(board, lit):
    """Refuse what is no rising tuple of sites of the board."""
    place = first_misplaced(lit, site_count(board))
    if place is not None:
        raise BadLit(place)


def site_count(board):
    """Tell how many sites the board has; it has as many faces."""
    return board[0] * board[1]


def edge_count(board):
    """Tell how many edges the board has."""
    return 2 * site_count(board)


def site_right_of(board, site):
    """Tell the site to the right of a site."""
    columns = board[1]
    return site - site % columns + (site + 1) % columns


def site_below(board, site):
    """Tell the site below a site."""
    return (site + board[1]) % site_count(board)


def goes_down(edge):
    """Tell whether an edge leads down from its site; else it leads to the right."""
    return edge % 2 == 1


def edge_ends(board, edge):
    """Tell the two sites at which an edge ends."""
    site = edge // 2
    if goes_down(edge):
        return site, site_below(board, site)
    return site, site_right_of(board, site)


def crosses_first_seam(board, edge):
    """Tell whether an edge leads from the last column to the first one."""
    columns = board[1]
    return not goes_down(edge) and edge // 2 % columns == columns - 1


def crosses_second_seam(board, edge):
    """Tell whether an edge leads from the last row to the first one."""
    rows, columns = board
    return goes_down(edge) and edge // 2 // columns == rows - 1


def odd_ones(numbers, many):
    """Tell which numbers below many are there an odd count of times, rising."""
    counts = [0] * many
    for number in numbers:
        counts[number] += 1
    return tuple([number for number, count in enumerate(counts) if count % 2 == 1])


def checks(board, flips):
    """Tell the sites that are lit by flips, rising."""
    require_board(board)
    require_flips(board, flips)
    ends = [site for edge in flips for site in edge_ends(board, edge)]
    return odd_ones(ends, site_count(board))


def seams(board, flips):
    """Tell how many flips cross the first seam and the second one, each by its rest by 2."""
    require_board(board)
    require_flips(board, flips)
    first = [edge for edge in flips if crosses_first_seam(board, edge)]
    second = [edge for edge in flips if crosses_second_seam(board, edge)]
    return len(first) % 2, len(second) % 2


def after(board, one, other):
    """Tell flips behind others: the edges that are in one of both, not in both."""
    require_board(board)
    require_flips(board, one)
    require_flips(board, other)
    return odd_ones(one + other, edge_count(board))
