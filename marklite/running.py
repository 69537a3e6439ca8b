"""Running text: its things, links and emphasis told as events."""

from marklite.events import CODE_SPAN, EMPHASIS_BEGINS, EMPHASIS_ENDS, LINK_BEGINS, LINK_ENDS
from marklite.links import with_links
from marklite.things import CODE, LINK, STAR, is_wide_space, read_things


def tell_running_text(text, events):
    """Tell the events of a paragraph's, a heading's or an item's text."""
    tell_things(with_links(read_things(text)), events)


def tell_things(things, events):
    """Find the emphasis in the things, and tell it and them."""
    ends = emphasis_ends(things)
    inside = False
    end = 0
    for at, thing in enumerate(things):
        if inside and at == end:
            events.tell(EMPHASIS_ENDS, 0, [])
            inside = False
        elif not inside and begins_emphasis(things, at, ends):
            events.tell(EMPHASIS_BEGINS, 0, [])
            inside = True
            end = ends[at + 2]
        else:
            tell_thing(thing, events)


def tell_thing(thing, events):
    """Tell one thing; whatever has no meaning of its own is text."""
    if thing.kind == CODE:
        events.tell(CODE_SPAN, 0, thing.data)
    elif thing.kind == LINK:
        events.tell(LINK_BEGINS, 0, thing.data)
        # No link has another in it, so this goes one step down at most.
        tell_things(thing.inner, events)
        events.tell(LINK_ENDS, 0, [])
    else:
        events.tell_text(thing.data)


def begins_emphasis(things, at, ends):
    """Tell whether the thing at the place is a star that begins emphasis."""
    if things[at].kind != STAR or at + 1 == len(things):
        return False
    return not is_wide_space(things[at + 1]) and ends[at + 2] > 0


def emphasis_ends(things):
    """Give, for each place, where the first star from there on stands that can end emphasis (0: nowhere).

    They are found beforehand, from the right, so that a text full of stars isn't searched anew for each.
    """
    ends = [0] * (len(things) + 1)
    for at in range(len(things) - 1, 0, -1):
        if things[at].kind == STAR and not is_wide_space(things[at - 1]):
            ends[at] = at
        else:
            ends[at] = ends[at + 1]
    return ends
