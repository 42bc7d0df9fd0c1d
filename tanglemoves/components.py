"""Components: which ends belong together, how many are closed, and how they are linked."""

from tanglemoves.events import CAP, CUP, OVER


class Weave:
    """The components of a tangle, as far as its events have been gone through.

    A piece starts at each strand at the top, and goes downwards there, and at each cup, where its
    left strand goes downwards and its right one upwards. Caps put pieces together.
    """

    def __init__(self, top):
        # Of each piece: its component, and whether its direction is the component's.
        self.pieces = [(piece, True) for piece in range(top)]
        # Of each strand: its piece, and whether this goes downwards here.
        self.row = [(piece, True) for piece in range(top)]
        # Of each crossing: its two pieces, and its sign by their directions.
        self.crossings = []

    def start_piece(self, place):
        """Goes through a cup."""
        piece = len(self.pieces)
        self.pieces.append((piece, True))
        self.row = self.row[:place] + [(piece, True), (piece, False)] + self.row[place:]

    def cross(self, kind, place):
        """Goes through a crossing."""
        one = self.row[place]
        other = self.row[place + 1]
        same_direction = one[1] == other[1]
        sign = 1 if same_direction == (kind == OVER) else -1
        self.crossings.append((one[0], other[0], sign))
        self.row[place] = other
        self.row[place + 1] = one

    def join_strands(self, place):
        """Goes through a cap."""
        one = self.row[place]
        other = self.row[place + 1]
        self.row = self.row[:place] + self.row[place + 2:]
        here = self.component(one[0])
        there = self.component(other[0])
        if here != there:
            # What comes down to a cap goes up behind it, so two equal directions don't fit.
            turned = self.goes_down(one) == self.goes_down(other)
            self.merge(min(here, there), max(here, there), turned)

    def merge(self, kept, gone, turned):
        """Merges a component into another; its direction is turned if it does not fit."""
        self.pieces = [(kept, along != turned) if component == gone else (component, along)
                       for component, along in self.pieces]

    def component(self, piece):
        """The component of a piece."""
        return self.pieces[piece][0]

    def along(self, piece):
        """Whether a piece has the direction of its component."""
        return self.pieces[piece][1]

    def goes_down(self, strand):
        """Whether the component of a strand goes downwards there."""
        return strand[1] == self.along(strand[0])


def weave_of(tangle):
    """The components of a whole tangle."""
    weave = Weave(tangle.top)
    for kind, strand in tangle.word:
        if kind == CUP:
            weave.start_piece(strand - 1)
        elif kind == CAP:
            weave.join_strands(strand - 1)
        else:
            weave.cross(kind, strand - 1)
    return weave


def all_components(weave):
    """The numbers of the components."""
    return sorted(set([component for component, along in weave.pieces]))


def components_of_ends(weave, top):
    """The components of the ends at the top, of which there are so many, and at the bottom."""
    ends = list(range(top)) + [piece for piece, down in weave.row]
    return [weave.component(piece) for piece in ends]


def ends_together(ends):
    """Of each end the first one in its component; the components of the ends are given."""
    return [ends.index(component) for component in ends]


def closed_count(weave, ends):
    """How many components have no ends."""
    return len([component for component in all_components(weave) if component not in ends])


def sorted_linkings(weave):
    """The linkings of all pairs of components, the smallest one first."""
    sums = sums_of_signs(weave)
    components = all_components(weave)
    linkings = []
    for index, one in enumerate(components):
        for other in components[index + 1:]:
            linkings.append(abs(sums.get((one, other), 0)))
    return sorted(linkings)


def sums_of_signs(weave):
    """For pairs of components that cross, the smaller number first, the sum of all signs."""
    sums = {}
    for one, other, sign in weave.crossings:
        here = weave.component(one)
        there = weave.component(other)
        pair = (min(here, there), max(here, there))
        same_turn = weave.along(one) == weave.along(other)
        sums[pair] = sums.get(pair, 0) + (sign if same_turn else -sign)
    return sums
