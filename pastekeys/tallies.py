"""Where some keys of a text stand, found without walking the text."""


class Tally:
    """Counts and places of the wanted keys, an ascending list, in spans.

    Each row has a span, how many wanted keys stand before it, before its
    source, and within its source.
    """

    def __init__(self, spans, wanted):
        self._wanted = list(wanted)
        self._rows = []
        self._total = 0
        for span in spans:
            skipped = self.count_before(span.source)
            inside = self.count_before(span.source + span.width) - skipped
            self._rows.append((span, self._total, skipped, inside))
            self._total = self.count_before(span.end)

    def count_before(self, place):
        """Return how often wanted keys stand before a place."""
        if place == 0:
            return 0
        span, before, skipped, inside = [row for row in self._rows if row[0].begin < place][-1]
        if span.key is not None:
            end = span.key + place - span.begin
            return before + len([key for key in self._wanted if span.key <= key < end])
        copies, rest = divmod(place - span.begin, span.width)
        return before + copies * inside - skipped + self.count_before(span.source + rest)

    def nth_place(self, number):
        """Return where a wanted key stands for the time with a number, from 0, or None."""
        if number >= self._total:
            return None
        span, before, skipped, inside = [row for row in self._rows if row[1] <= number][-1]
        if span.key is not None:
            own = [key for key in self._wanted if key >= span.key]
            return span.begin + own[number - before] - span.key
        copies, rest = divmod(number - before, inside)
        return span.begin + copies * span.width - span.source + self.nth_place(skipped + rest)
