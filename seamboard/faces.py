"""The faces of the board, and how flips lead to others that are alike."""

from seamboard.boards import after, checks, edge_count, first_misplaced, odd_ones
from seamboard.boards import require_board, require_flips, seams, site_below, site_count, site_right_of
from seamboard.errors import BadFaces


def require_faces(board, faces):
    """Refuse what is no rising tuple of faces of the board."""
    place = first_misplaced(faces, site_count(board))
    if place is not None:
        raise BadFaces(place)


def edges_round(board, face):
    """Tell the four edges round a face."""
    lower = site_below(board, face)
    righter = site_right_of(board, face)
    return 2 * face, 2 * face + 1, 2 * lower, 2 * righter + 1


def turned(board, flips, faces):
    """Tell the flips behind which, face by face, all edges round these faces were flipped once more."""
    require_board(board)
    require_flips(board, flips)
    require_faces(board, faces)
    more = [edge for face in faces for edge in edges_round(board, face)]
    return odd_ones([*flips, *more], edge_count(board))


def led(board, one, other):
    """Tell the faces, without face 0, that lead the one flips to the other; None if they aren't alike."""
    apart = after(board, one, other)
    if checks(board, apart) != () or seams(board, apart) != (0, 0):
        return None
    return faces_within(board, apart)


def faces_within(board, apart):
    """Tell the faces, without face 0, round which just the edges of apart are flipped."""
    columns = board[1]
    # An edge is in apart if just one of the two faces beside it is turned. Face 0 is not;
    # so each face follows from the one to its left, the first of a row from the one above.
    turns = [False]
    for face in range(1, site_count(board)):
        if face % columns == 0:
            turns.append(turns[face - columns] != (2 * face in apart))
        else:
            turns.append(turns[face - 1] != (2 * face + 1 in apart))
    return tuple([face for face, turn in enumerate(turns) if turn])
