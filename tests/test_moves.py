import itertools
import unittest

from stopsheld.moves import do_moves, order_moves

PLACES = ("r0", "r1", "r2", "s0")


def moves_of(text):
    """Give the moves that pieces like r0=r1 tell."""
    return tuple([tuple(piece.split("=")) for piece in text.split()])


def all_moves():
    """Give all parallel moves of up to four destinations among four locations, in each order of the destinations."""
    for many in range(5):
        for destinations in itertools.permutations(PLACES, many):
            for sources in itertools.product(PLACES, repeat=many):
                yield tuple(zip(destinations, sources))


def ordered_by_words(moves):
    """Give the ordering of m2 by its words: who is ready, done and where is noted for each location."""
    moves = [(destination, source) for destination, source in moves if destination != source]
    sources = [source for _, source in moves]
    present = {source: source for source in sources}
    ready = [destination for destination, _ in moves if destination not in sources]
    done, row = [], []
    while len(done) < len(moves):
        if ready:
            first = ready[0]
            ready = ready[1:]
            source = dict(moves)[first]
            was = present[source]
            row.append((first, was))
            done.append(first)
            present[source] = first
            if was == source and source in dict(moves) and source not in done:
                ready = ready + [source]
        else:
            first = [destination for destination, _ in moves if destination not in done][0]
            row.append(("t", first))
            present[first] = "t"
            ready = [first]
    return tuple(row)


def length_by_words(moves):
    """Give the length of m3: one for each move to another place, and one for each ring that is no source outside."""
    told = {destination: source for destination, source in moves if destination != source}
    rings = []
    for start in told:
        ring = [start]
        while ring[-1] in told and told[ring[-1]] not in ring:
            ring.append(told[ring[-1]])
        if ring[-1] in told and told[ring[-1]] == start:
            rings.append(sorted(ring))
    alone = [ring for ring in rings
             if not [source for destination, source in told.items() if source in ring and destination not in ring]]
    return len(told) + len({tuple(ring) for ring in alone})


def distances():
    """Give for each way to fill the locations with what was in them the least number of moves that does it."""
    places = PLACES + ("t",)
    start = places
    found = {start: 0}
    left = [start]
    for contents in left:
        for to, source in itertools.permutations(range(5), 2):
            behind = contents[:to] + (contents[source],) + contents[to + 1:]
            if behind not in found:
                found[behind] = found[contents] + 1
                left.append(behind)
    return found


class OrderTest(unittest.TestCase):
    def check(self, text, expected):
        moves = moves_of(text)
        self.assertEqual(order_moves(moves), moves_of(expected))
        self.assertEqual(moves, moves_of(text))

    def test_examples(self):
        self.check("r0=r1 r1=r0 r2=r2", "t=r0 r0=r1 r1=t")
        self.check("r0=r1 r2=r0 r1=r2", "t=r0 r0=r1 r1=r2 r2=t")

    def test_no_moves(self):
        self.check("", "")

    def test_moves_to_themselves(self):
        self.check("r0=r0", "")
        self.check("r0=r0 s3=s3 r1=r1", "")
        self.check("r0=r0 r1=r0 r2=r2", "r1=r0")

    def test_one_move(self):
        self.check("r0=r1", "r0=r1")
        self.check("s15=r7", "s15=r7")

    def test_moves_that_have_nothing_to_do_with_one_another(self):
        self.check("r0=r1 r2=r3 s0=s1", "r0=r1 r2=r3 s0=s1")
        self.check("s0=s1 r2=r3 r0=r1", "s0=s1 r2=r3 r0=r1")

    def test_chains(self):
        self.check("r0=r1 r1=r2 r2=r3", "r0=r1 r1=r2 r2=r3")
        self.check("r2=r3 r1=r2 r0=r1", "r0=r1 r1=r2 r2=r3")
        self.check("r1=r2 r0=r1 s0=r3", "r0=r1 s0=r3 r1=r2")

    def test_one_source_for_several(self):
        # The second one takes it from where the first one has put it.
        self.check("r1=r0 r2=r0 r3=r0", "r1=r0 r2=r1 r3=r2")
        self.check("r1=r0 r2=r0 r0=r3", "r1=r0 r2=r1 r0=r3")

    def test_rings(self):
        self.check("r0=r1 r1=r0", "t=r0 r0=r1 r1=t")
        self.check("r1=r0 r0=r1", "t=r1 r1=r0 r0=t")
        self.check("r0=r1 r1=r2 r2=r3 r3=r0", "t=r0 r0=r1 r1=r2 r2=r3 r3=t")

    def test_two_rings(self):
        self.check("r0=r1 r2=r3 r1=r0 r3=r2", "t=r0 r0=r1 r1=t t=r2 r2=r3 r3=t")
        self.check("r3=r2 r0=r1 r1=r0 r2=r3", "t=r3 r3=r2 r2=t t=r0 r0=r1 r1=t")

    def test_ring_with_a_source_outside(self):
        self.check("r0=r1 r1=r0 r2=r0", "r2=r0 r0=r1 r1=r2")
        self.check("r0=r1 r1=r0 r2=r1", "r2=r1 r1=r0 r0=r2")
        self.check("r0=r1 r1=r0 r2=r1 r3=r0", "r2=r1 r3=r0 r1=r3 r0=r2")

    def test_ring_with_a_chain_behind_it(self):
        self.check("r0=r1 r1=r0 r2=r1 s0=r2", "s0=r2 r2=r1 r1=r0 r0=r2")

    def test_ring_beside_others(self):
        self.check("r0=r1 r1=r0 s0=s1", "s0=s1 t=r0 r0=r1 r1=t")
        self.check("r0=r1 s0=s1 r1=r0 s1=s0 s2=s0", "s2=s0 s0=s1 s1=s2 t=r0 r0=r1 r1=t")

    def test_ready_ones_come_in_their_row(self):
        # r1 becomes ready behind s0, which was ready from the beginning.
        self.check("r0=r1 r1=r3 s0=s1", "r0=r1 s0=s1 r1=r3")

    def test_more_moves_than_a_block_has_parameters(self):
        self.check(" ".join([f"r{number}=r{(number + 1) % 8}" for number in range(8)]),
                   "t=r0 " + " ".join([f"r{number}=r{number + 1}" for number in range(7)]) + " r7=t")

    def test_all_moves_by_the_words(self):
        for moves in all_moves():
            self.assertEqual(order_moves(moves), ordered_by_words(moves), moves)

    def test_all_moves_do_what_the_parallel_move_does(self):
        contents = {place: number for number, place in enumerate(PLACES + ("t", "r7"))}
        for moves in all_moves():
            behind = do_moves(order_moves(moves), contents)
            expected = {**contents, **{destination: contents[source] for destination, source in moves}}
            behind.pop("t")
            expected.pop("t")
            self.assertEqual(behind, expected, moves)

    def test_length_of_all_moves_and_that_none_is_shorter(self):
        least = {}
        for contents, many in distances().items():
            least[contents[:4]] = min(many, least.get(contents[:4], many))
        for moves in all_moves():
            many = len(order_moves(moves))
            self.assertEqual(many, length_by_words(moves), moves)
            self.assertEqual(many, least[tuple([dict(moves).get(place, place) for place in PLACES])], moves)

    def test_tuple_of_pairs(self):
        found = order_moves(moves_of("r0=r1 r1=r0"))
        self.assertEqual({part.__class__ for part in found}, {tuple})
        self.assertIs(found.__class__, tuple)
        self.assertIs(order_moves(()).__class__, tuple)


class DoTest(unittest.TestCase):
    def test_one_behind_the_other(self):
        contents = {"r0": 1, "r1": 2, "r2": 3, "t": 0}
        self.assertEqual(do_moves(moves_of("r0=r1 r1=r0"), contents), {"r0": 2, "r1": 2, "r2": 3, "t": 0})
        self.assertEqual(do_moves(moves_of("t=r0 r0=r1 r1=t"), contents), {"r0": 2, "r1": 1, "r2": 3, "t": 1})
        self.assertEqual(do_moves(moves_of("r0=r0 r1=r2 r1=r0"), contents), {"r0": 1, "r1": 1, "r2": 3, "t": 0})

    def test_no_moves(self):
        self.assertEqual(do_moves((), {"r0": 1}), {"r0": 1})
        self.assertEqual(do_moves((), {}), {})

    def test_location_that_comes_with_a_move(self):
        self.assertEqual(do_moves(moves_of("s5=r0 t=s5"), {"r0": -7}), {"r0": -7, "s5": -7, "t": -7})

    def test_contents_stay_and_the_others_are_new(self):
        contents = {"r0": 1, "r1": 2}
        for moves in ((), moves_of("r0=r1")):
            behind = do_moves(moves, contents)
            self.assertIsNot(behind, contents)
            self.assertIs(behind.__class__, dict)
            behind["r1"] = 99
            self.assertEqual(contents, {"r0": 1, "r1": 2})


if __name__ == "__main__":
    unittest.main()
