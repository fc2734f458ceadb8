"""Live books as texts, written and led anew."""

from flatrooms.deedtexts import deed_text, read_deed, read_start, start_text
from flatrooms.errors import BadLive, BadText
from flatrooms.live import LiveBook, was_done


def journal_text(live):
    """The line of the start of a live book, then those of the deeds done."""
    if not isinstance(live, LiveBook):
        raise BadLive("no live book")
    return "\n".join([f"live {start_text(live.start)}", *[deed_text(deed) for deed in live.deeds()]])


def led_live(text):
    """A live book with this text; any other value is refused by the index of its first wrong line."""
    if not isinstance(text, str):
        raise BadText(0)
    lines = text.split("\n")
    word, _, rest = lines[0].partition(" ")
    start = read_start(rest)
    if word != "live" or start is None:
        raise BadText(0)
    live = LiveBook(start)
    for at, line in enumerate(lines[1:], start=1):
        # What is no deed's line is read as None, which is refused as well.
        if not was_done(live, read_deed(line)):
            raise BadText(at)
    return live
