"""Roots: lots that each hang together, one at least in each part of the web."""

from partswithin.checks import is_web_lot, need_web
from partswithin.errors import BadRoots, NoRoot
from partswithin.forms import is_list
from partswithin.levels import hangs_together, parts


def need_roots(web, roots):
    """Raises BadWeb, BadRoots, NoRoot, in this order."""
    need_web(web)
    if not is_list(roots):
        raise BadRoots(0)
    rooted = {}
    for index, root in enumerate(roots):
        if not is_web_lot(web, root) or not hangs_together(web, root):
            raise BadRoots(index)
        if any([place in rooted for place in root]):
            raise BadRoots(index)
        for place in root:
            rooted[place] = True
    # parts are ascending by their first places
    for part in parts(web):
        if not any([place in rooted for place in part]):
            raise NoRoot(part[0])
