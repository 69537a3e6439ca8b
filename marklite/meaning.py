"""The meaning of a text: the events of its blocks, from the first line on."""

from marklite.blocks import read_blocks
from marklite.events import CODE_BLOCK_BEGINS, CODE_BLOCK_ENDS, CODE_BLOCK_LINE
from marklite.events import HEADING_BEGINS, HEADING_ENDS, PARAGRAPH_BEGINS, PARAGRAPH_ENDS
from marklite.events import ITEM_BEGINS, ITEM_ENDS, LIST_BEGINS, LIST_ENDS
from marklite.events import Events
from marklite.lines import FENCE, HEADING, ITEM, read_lines
from marklite.running import tell_running_text


def events_of(text):
    """Give the list of events that the text means."""
    events = Events()
    # How many items have begun and not ended, one in the other.
    nested = 0
    for block in read_blocks(read_lines(text)):
        if block.kind == ITEM:
            nested = tell_item(block, nested, events)
        else:
            end_items(nested, events)
            nested = 0
            tell_block(block, events)
    end_items(nested, events)
    return events.told


def tell_item(block, nested, events):
    """Tell an item up to its text, and give how many items are then one in the other.

    The items before it stay begun, as far as it lies in them; the item before has depth `nested` - 1,
    so this one's depth is at most `nested`.
    """
    depth = min(block.number, nested)
    if depth == nested:
        events.tell(LIST_BEGINS, 0, [])
    else:
        end_items(nested - depth - 1, events)
        events.tell(ITEM_ENDS, 0, [])
    events.tell(ITEM_BEGINS, 0, [])
    tell_running_text(block.text, events)
    return depth + 1


def end_items(count, events):
    """End the innermost items, so many of them, and the lists that they are the last of."""
    for step in range(count):
        events.tell(ITEM_ENDS, 0, [])
        events.tell(LIST_ENDS, 0, [])


def tell_block(block, events):
    """Tell a code block, a heading or a paragraph."""
    if block.kind == FENCE:
        events.tell(CODE_BLOCK_BEGINS, 0, block.text)
        for row in block.rows:
            events.tell(CODE_BLOCK_LINE, 0, row)
        events.tell(CODE_BLOCK_ENDS, 0, [])
    elif block.kind == HEADING:
        events.tell(HEADING_BEGINS, block.number, [])
        tell_running_text(block.text, events)
        events.tell(HEADING_ENDS, block.number, [])
    else:
        events.tell(PARAGRAPH_BEGINS, 0, [])
        tell_running_text(block.text, events)
        events.tell(PARAGRAPH_ENDS, 0, [])
