"""The errors that refuse a call, one for each refusal."""


class TextTooLong(Exception):
    """A text has more bytes than may be handed in."""


class TextFault(Exception):
    """A text is not what it is read as, from a place on."""

    def __init__(self, place):
        self.place = place


class DeskFull(Exception):
    """There are as many strips as there may be."""


class NoBar(Exception):
    """No bar stands yet."""


class NoStrip(Exception):
    """There is no strip of this number."""


class OtherWidth(Exception):
    """The strip's width is not the bar's."""


class OutOfRange(Exception):
    """A number is above what it may be."""


class RowsOutOfOrder(Exception):
    """A wish's row is below that of the wish before."""


class UnknownCall(Exception):
    """No call has this number; it is no refusal, for the document asks for no answer."""
