"""Drawings of flips, written and read."""

from seamboard.boards import LEAST_SIDE, MOST_SIDE, checks, site_count
from seamboard.errors import BadText

SITES = "o*"
RIGHT_EDGES = "-="
DOWN_EDGES = "|#"
BLANKS = " "


def row_sites(board, row):
    """Tell the sites of a row of the board."""
    columns = board[1]
    return list(range(row * columns, (row + 1) * columns))


def sign_of(signs, change):
    """Tell the first of two signs, or the second one, if there is a change."""
    return signs[1] if change else signs[0]


def written(board, flips):
    """Tell the drawing of flips: for each row of the board one of sites and one of the edges down."""
    lit = checks(board, flips)
    rows = []
    for row in range(board[0]):
        sites = row_sites(board, row)
        rows.append("".join([sign_of(SITES, s in lit) + sign_of(RIGHT_EDGES, 2 * s in flips) for s in sites]))
        rows.append(BLANKS.join([sign_of(DOWN_EDGES, 2 * s + 1 in flips) for s in sites]))
    return "\n".join(rows)


def is_row(row, number, columns):
    """Tell whether a row of text has the length and the signs that it has by its number."""
    down = number % 2 == 1
    at_sites = DOWN_EDGES if down else SITES
    between = BLANKS if down else RIGHT_EDGES
    # Behind the last site of a row there is an edge to the right, but no blank.
    if len(row) != 2 * columns - number % 2:
        return False
    return all([sign in at_sites for sign in row[::2]]) and all([sign in between for sign in row[1::2]])


def require_rows(rows):
    """Refuse rows of text that no drawing has, but for which sites are lit."""
    columns = len(rows[0]) // 2
    if not LEAST_SIDE <= columns <= MOST_SIDE:
        raise BadText(0)
    for number, row in enumerate(rows):
        if number == 2 * MOST_SIDE or not is_row(row, number, columns):
            raise BadText(number)
    if len(rows) % 2 == 1 or len(rows) < 2 * LEAST_SIDE:
        raise BadText(len(rows))


def drawn_flips(board, rows):
    """Tell which edges the rows of a drawing show as flipped."""
    flips = []
    for site in range(site_count(board)):
        row, column = divmod(site, board[1])
        if rows[2 * row][2 * column + 1] == RIGHT_EDGES[1]:
            flips.append(2 * site)
        if rows[2 * row + 1][2 * column] == DOWN_EDGES[1]:
            flips.append(2 * site + 1)
    return tuple(flips)


def read(text):
    """Tell the pair of board and flips of which a text is the drawing."""
    if not isinstance(text, str):
        raise BadText(0)
    rows = text.split("\n")
    require_rows(rows)
    board = (len(rows) // 2, len(rows[0]) // 2)
    flips = drawn_flips(board, rows)
    # The edges are drawn as they were read, so only lit sites can differ.
    for number, row in enumerate(written(board, flips).split("\n")):
        if row != rows[number]:
            raise BadText(number)
    return board, flips
