"""Links: found once in the things of running text, from the left."""

from marklite.signs import CLOSING_PARENTHESIS, OPENING_PARENTHESIS
from marklite.things import CLOSING, CODE, LINK, OPENING, Thing, is_byte, is_wide_space


def with_links(things):
    """Give the things with each link as one thing."""
    found = []
    at = 0
    while at < len(things):
        end = link_end(things, at)
        if end > at:
            found.append(link_between(things, at, end))
            at = end + 1
        else:
            found.append(things[at])
            at += 1
    return found


def link_end(things, at):
    """Give the place of the parenthesis that ends the link begun at `at`; `at` itself if none is."""
    if things[at].kind != OPENING:
        return at
    middle = bracket_behind(things, at)
    if middle == at + 1 or middle + 1 >= len(things) or things[middle].kind != CLOSING:
        return at
    if not is_byte(things[middle + 1], OPENING_PARENTHESIS):
        return at
    end = address_end(things, middle + 2)
    return end if end < len(things) and is_byte(things[end], CLOSING_PARENTHESIS) else at


def link_between(things, at, end):
    """Make one thing of the link that stands from `at` to `end`."""
    middle = bracket_behind(things, at)
    address = []
    for thing in things[middle + 2:end]:
        address.extend(thing.data)
    return Thing(LINK, address, things[at + 1:middle])


def bracket_behind(things, at):
    """Give the place of the first bracket behind `at`, or where the things end."""
    place = at + 1
    while place < len(things) and not is_bracket(things[place]):
        place += 1
    return place


def address_end(things, begin):
    """Give the first place from `begin` on that an address can't have, or where the things end."""
    place = begin
    while place < len(things) and may_be_in_address(things[place]):
        place += 1
    return place


def may_be_in_address(thing):
    """Tell whether an address goes on over the thing."""
    if thing.kind == CODE or is_bracket(thing):
        return False
    return not is_wide_space(thing) and not is_byte(thing, CLOSING_PARENTHESIS)


def is_bracket(thing):
    """Tell whether the thing is a bracket that has its meaning."""
    return thing.kind == OPENING or thing.kind == CLOSING
