"""A watch, that is told beat by beat which sites are lit."""

from seamboard.beats import MOST_BEATS, require_count, stories
from seamboard.boards import require_board, require_lit
from seamboard.errors import BadName, NoPoint, TooMany
from seamboard.ways import SEAMS

LETTERS = "abcdefghijklmnopqrstuvwxyz"
MOST_LETTERS = 8


def is_name(thing):
    """Tell whether a thing is a text of one to eight letters."""
    if not isinstance(thing, str) or not 1 <= len(thing) <= MOST_LETTERS:
        return False
    return all([sign in LETTERS for sign in thing])


class Watch:
    """The beats that were told so far, and the points that were marked by a name."""

    def __init__(self, board, *, flip=1, lie=1):
        require_board(board)
        require_count(flip)
        require_count(lie)
        self.board = board
        self.flip = flip
        self.lie = lie
        self.beats = ()
        self.points = {}

    def beat(self, lit):
        """Take one beat more, at which these sites are lit; tell how many beats there are."""
        require_lit(self.board, lit)
        if len(self.beats) == MOST_BEATS:
            raise TooMany("a watch has five beats at most")
        self.beats = (*self.beats, lit)
        return len(self.beats)

    def back(self):
        """Take the last beat away; tell whether there was one."""
        if self.beats == ():
            return False
        self.beats = self.beats[:-1]
        return True

    def told(self):
        """Tell all beats."""
        return list(self.beats)

    def guess(self):
        """Tell the seams of the least stories, and by how much more the least of the others costs."""
        if self.beats == ():
            return (0, 0), None
        ways = stories(self.board, self.beats, flip=self.flip, lie=self.lie)
        # SEAMS rise, so of stories that cost as much the first stay ahead.
        rising = sorted([(way[0], crossed) for crossed, way in zip(SEAMS, ways)])
        cost, crossed = rising[0]
        return crossed, rising[1][0] - cost

    def mark(self, name):
        """Name the point where the watch stands."""
        if not is_name(name):
            raise BadName("a name is one to eight letters a to z")
        self.points[name] = self.beats

    def go(self, name):
        """Stand again at the point of this name."""
        if not isinstance(name, str) or name not in self.points:
            raise NoPoint("no point was marked by this name")
        self.beats = self.points[name]

    def marks(self):
        """Tell each name with how many beats there are at its point, rising."""
        return [(name, len(self.points[name])) for name in sorted(self.points)]
