"""What sites tell over beats, and the stories of flips and lies that explain it."""

from seamboard.boards import after, checks, edge_count, first_misplaced, is_whole, odd_ones
from seamboard.boards import require_board, seams, site_count
from seamboard.errors import BadCount, BadStory, BadTold, TooMany
from seamboard.ways import MOST_LIT, least_joins, links_of, numbers_in

MOST_BEATS = 5
LEAST_COUNT = 1
MOST_COUNT = 9


def is_lit(board, thing):
    """Tell whether a thing is a rising tuple of sites of the board."""
    return first_misplaced(thing, site_count(board)) is None


def first_bad_beat(board, told):
    """Tell the number of the first beat that can't be, or None."""
    if not isinstance(told, tuple) or len(told) == 0:
        return 0
    for number, lit in enumerate(told):
        if number == MOST_BEATS or not is_lit(board, lit):
            return number
    # No site lies at the last beat, and flips light an even count of sites.
    if len(told[-1]) % 2 == 1:
        return len(told) - 1
    return None


def require_told(board, told):
    """Refuse what beats can't tell."""
    number = first_bad_beat(board, told)
    if number is not None:
        raise BadTold(number)


def is_pair(board, thing):
    """Tell whether a thing is a pair of flips and sites of the board."""
    if not isinstance(thing, tuple) or len(thing) != 2:
        return False
    return first_misplaced(thing[0], edge_count(board)) is None and is_lit(board, thing[1])


def first_bad_pair(board, story, many):
    """Tell the number of the first pair that keeps a story from being one of many beats, or None."""
    if not isinstance(story, list):
        return 0
    for number, pair in enumerate(story):
        if number == many or not is_pair(board, pair):
            return number
    if len(story) < many:
        return len(story)
    return None


def require_story(board, story, many):
    """Refuse what is no story of many beats."""
    number = first_bad_pair(board, story, many)
    if number is not None:
        raise BadStory(number)


def require_count(count):
    """Refuse what a flip or a lie can't cost."""
    if not is_whole(count) or not LEAST_COUNT <= count <= MOST_COUNT:
        raise BadCount("a flip and a lie cost a whole number from 1 to 9 each")


def judged(board, told, story, *, flip=1, lie=1):
    """Tell (cost, seams) of a story by which the beats tell just so, and none lies at the last one; else None."""
    require_board(board)
    require_told(board, told)
    require_story(board, story, len(told))
    require_count(flip)
    require_count(lie)
    cost = 0
    flipped = ()
    for lit, (flips, liars) in zip(told, story):
        flipped = after(board, flipped, flips)
        if odd_ones(checks(board, flipped) + liars, site_count(board)) != lit:
            return None
        cost += flip * len(flips) + lie * len(liars)
    if story[-1][1] != ():
        return None
    return cost, seams(board, flipped)


def changes(board, told):
    """Tell where sites tell otherwise than at the beat ahead: for each such site of each beat its node."""
    many = site_count(board)
    nodes = []
    ahead = ()
    for beat, lit in enumerate(told):
        nodes.extend([beat * many + site for site in odd_ones(ahead + lit, many)])
        ahead = lit
    return nodes


def story_links(board, many, flip, lie):
    """Tell the links of a story of many beats: the edges of each beat, then the sites of each beat but the last.

    Node beat * sites + site stands for a change at a site from the beat ahead. A flip changes two sites of
    its beat; a lie changes its site at its own beat, and back at the next one.
    """
    sites = site_count(board)
    edges = links_of(board, [flip] * edge_count(board))
    links = []
    for shift in range(0, many * sites, sites):
        links.extend([(one + shift, other + shift, cost, crossed) for one, other, cost, crossed in edges])
    links.extend([(node, node + sites, lie, 0) for node in range((many - 1) * sites)])
    return links


def story_of(board, many, bits):
    """Tell the story of many beats over whose links a way goes."""
    edges = edge_count(board)
    sites = site_count(board)
    story = []
    for beat in range(many):
        flips = numbers_in(bits >> (beat * edges), edges)
        liars = numbers_in(bits >> (many * edges + beat * sites), sites)
        story.append((flips, liars))
    return story


def stories(board, told, *, flip=1, lie=1):
    """Tell for each of SEAMS (cost, story) of the least story by which the beats tell just so."""
    require_board(board)
    require_told(board, told)
    lit = changes(board, told)
    if len(lit) > MOST_LIT:
        raise TooMany("sites tell otherwise than at the beat ahead more than eight times")
    require_count(flip)
    require_count(lie)
    many = len(told)
    links = story_links(board, many, flip, lie)
    # All flips of a round over a seam may be flipped at the first beat, for the same cost and without a lie.
    ways = least_joins(board, links, many * site_count(board), lit)
    return [(cost, story_of(board, many, bits)) for cost, bits in ways]
