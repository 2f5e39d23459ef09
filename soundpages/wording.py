"""The wording of a text or value: bytes, and holes among them."""

from soundpages.limits import PAGE_BYTES


def shared_names(one, other):
    fewer = one if len(one) <= len(other) else other
    more = other if len(one) <= len(other) else one
    return [name for name in fewer if name in more]


class Wording:
    def __init__(self):
        # Rows of bytes that stand for themselves, and holes: their names as texts.
        self.pieces = []
        # Where among the pieces the rows are, and where the holes of each name: so that those that give
        # nothing needn't be looked at one by one. There may be thousands, met thousands of times.
        self.fixed = []
        self.holes = {}

    def add_byte(self, byte):
        if len(self.pieces) > 0 and isinstance(self.pieces[-1], list):
            self.pieces[-1].append(byte)
        else:
            self.fixed.append(len(self.pieces))
            self.pieces.append([byte])

    def add_hole(self, name):
        self.holes.setdefault(name, []).append(len(self.pieces))
        self.pieces.append(name)

    def has_hole(self):
        return len(self.holes) > 0

    # What the holes give in these rounds, without those that give nothing.
    def texts_given(self, rounds):
        texts = {}
        for name in shared_names(self.holes, rounds.found):
            text = rounds.text_for(name)
            if len(text) > 0:
                texts[name] = text
        return texts

    # It breaks off where it is too long for any page: how it begins is all that's still asked of it.
    def fill_in(self, rounds):
        texts = self.texts_given(rounds)
        places = list(self.fixed)
        for name in texts:
            places.extend(self.holes[name])
        row = []
        for place in sorted(places):
            piece = self.pieces[place]
            row.extend(texts[piece] if isinstance(piece, str) else piece)
            if len(row) > PAGE_BYTES:
                break
        return row
