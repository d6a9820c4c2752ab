"""Points 26.1 to 26.4: jobs."""

import itertools
import random

from manysides.arrays import Array
from manysides.chunks import box_of_chunk
from manysides.coding import encode_chunk
from manysides.errors import InvalidQuery
from manysides.jobs import Job
from manysides.parts import plan, reads_of
from manysides.queries import operators, shape_of
from manysides.shapes import Shape
from manysides.sources import MemorySource
from manysides.teller import tell
from manysides.workers import Worker, owner_of
from tests import made
from tests.helpers import LINE, Case, shown

# The array m has the chunks 0, 1 and 3; the array kk has the chunks 0 and 1.
SHAPE = Shape((("x", 0, 9, 3),), (("v", "int"),))
ARRAYS = {"m": Array(SHAPE, {(1,): (7,), (2,): (1,), (4,): (2,), (9,): (5,)}), "kk": Array(LINE, {(0,): (3,), (9,): (4,)}),
          "z": Array(LINE, {(0,): (1,)})}
M, K = ("scan", "m"), ("scan", "kk")
V = ("attr", "v")
OCTETS = {("m", (0,)): [2, 1, 96, 0, 0, 14, 2], ("m", (1,)): [1, 1, 64, 0, 0, 4], ("m", (3,)): [1, 0, 0, 0, 10]}


def octets_of(name, chunk, arrays=ARRAYS):
    """Returns the octets of the cells of a chunk, a tuple."""
    source = MemorySource(arrays)
    return tuple(encode_chunk(arrays[name].shape, chunk, source.read(name, chunk)))


def job(query, count=1, number=0, version=5):
    return Job(number, version, query, MemorySource(ARRAYS), count)


def plain(sends):
    """Returns a list of what is sent that tells Shapes by their dims and attributes."""
    return [(worker, message if message[0] != "work" else message[:4] + (
        tuple([(name, shown(shape)) for name, shape in message[4]]), message[5])) for worker, message in sends]


class NeedsTest(Case):
    def test_a_scan(self):
        self.assert_same(job(M).needs(), [[("m", (0,))], [("m", (1,))], [], [("m", (3,))]])
        self.assert_same(job(K).needs(), [[("kk", (0,))], [("kk", (1,))]])

    def test_what_the_plan_reads(self):
        query = ("keep", ("with", M, (("v", ("add", V, ("value", "int", 10))),)), ("gt", V, ("value", "int", 13)))
        self.assert_same(job(query).needs(), [[("m", (0,))], [], [], [("m", (3,))]])

    def test_several_arrays_and_regions(self):
        query = ("window", ("either", K, M), (("x", 1, 0),), (("n", "count", None),))
        self.assert_same(job(query).needs(), [[("kk", (0,)), ("m", (0,)), ("m", (1,))], [("kk", (0,)), ("kk", (1,)), ("m", (1,)), ("m", (3,))]])
        query = ("window", ("either", M, K), (("x", 1, 0),), (("n", "count", None),))
        self.assert_same(job(query).needs()[1:3], [[("kk", (0,)), ("kk", (1,)), ("m", (0,)), ("m", (1,))], [("kk", (1,)), ("m", (1,))]])

    def test_a_chunk_that_several_scans_read(self):
        query = ("join", M, ("named", M, (("v", "u"),)))
        self.assert_same(job(query).needs(), [[("m", (0,))], [("m", (1,))], [], [("m", (3,))]])

    def test_the_list_is_a_new_one(self):
        j = job(M)
        j.needs()[0].clear()
        j.needs().clear()
        self.assert_same(j.needs(), [[("m", (0,))], [("m", (1,))], [], [("m", (3,))]])

    def test_against_the_lists_of_reads(self):
        rolls = random.Random(3)
        for query in made.queries(150, 51):
            source = MemorySource(made.some_arrays(rolls))
            shape = shape_of(query, made.SHAPES)
            j = self.assert_unchanged(Job, 0, 1, query, source, 2)
            self.assert_same(source.reads(), [])
            told = plan(query, source)
            names = [part[1] for part in operators(told)]
            chunks = itertools.product(*[range((high - low) // step + 1) for _, low, high, step in shape.dims])
            wanted = [sorted({(names[number], chunk) for number, chunk in reads_of(told, box_of_chunk(shape, chunk), source)})
                      for chunk in chunks]
            self.assert_same(j.needs(), wanted)

    def test_queries_without_a_shape(self):
        for query, place in ((("scan", "none"), 0), (("join", ("keep", M, V), K), 1), (("only", ("only", M, ("v",)), ("u",)), 0)):
            self.assert_error(InvalidQuery, place, job, query)


class SendsTest(Case):
    def fetch(self, name, chunk, number=0, version=5):
        return ("fetch", (number, "chunk", name, chunk), (version, name, chunk))

    def load(self, name, chunk, number=0, version=5):
        return ("load", (number, "chunk", name, chunk), (version, name, chunk), octets_of(name, chunk))

    def work(self, query, index, region, names, chunks, number=0):
        return ("work", (number, "part", index), query, region, tuple([(name, shown(ARRAYS[name].shape)) for name in names]),
                tuple([(name, chunk, octets_of(name, chunk)) for name, chunk in chunks]))

    def test_octets(self):
        for (name, chunk), octets in OCTETS.items():
            self.assert_same(octets_of(name, chunk), tuple(octets))

    def test_at_first_all_chunks_are_fetched(self):
        j = job(M)
        self.assert_same(plain(j.sends()), [(0, self.fetch("m", (0,))), (0, self.fetch("m", (1,))), (0, self.fetch("m", (3,))),
                                            (0, self.work(M, 2, ((6, 8),), ["m"], []))])
        j.sends().clear()
        self.assert_same(len(j.sends()), 4)
        self.assert_same(j.is_done(), False)

    def test_the_states_of_a_chunk(self):
        j = job(K)
        label = (0, "chunk", "kk", (0,))
        other = (0, self.fetch("kk", (1,)))
        octets = octets_of("kk", (0,))
        steps = ((("loaded", label), "fetch"), (("unknown", label), "load"), (("unknown", label), "load"), (("loaded", label), "fetch"),
                 (("loaded", label), "fetch"), (("unknown", label), "load"), (("loaded", label), "fetch"), (("chunk", label, octets), "known"),
                 (("unknown", label), "known"), (("loaded", label), "known"), (("chunk", label, (1, 2)), "known"))
        wanted = {"fetch": [(0, self.fetch("kk", (0,))), other], "load": [(0, self.load("kk", (0,))), other],
                  "known": [other, (0, self.work(K, 0, ((0, 4),), ["kk"], [("kk", (0,))]))]}
        self.assert_same(plain(j.sends()), wanted["fetch"])
        for reply, state in steps:
            self.assertIsNone(self.assert_unchanged(j.receive, reply))
            self.assert_same(plain(j.sends()), wanted[state])

    def test_a_chunk_that_comes_while_it_is_unknown(self):
        j = job(K)
        j.receive(("unknown", (0, "chunk", "kk", (1,))))
        self.assert_same(plain(j.sends()), [(0, self.fetch("kk", (0,))), (0, self.load("kk", (1,)))])
        j.receive(("chunk", (0, "chunk", "kk", (1,)), octets_of("kk", (1,))))
        self.assert_same(plain(j.sends()), [(0, self.fetch("kk", (0,))), (0, self.work(K, 1, ((5, 9),), ["kk"], [("kk", (1,))]))])

    def test_one_row_of_fetching_and_loading(self):
        query = ("either", K, M)
        j = job(query)
        for name, chunk in (("kk", (1,)), ("m", (0,)), ("m", (3,))):
            j.receive(("unknown", (0, "chunk", name, chunk)))
        self.assert_same(plain(j.sends()), [(0, self.fetch("kk", (0,))), (0, self.load("kk", (1,))), (0, self.load("m", (0,))),
                                            (0, self.fetch("m", (1,))), (0, self.load("m", (3,)))])
        for name, chunk in (("kk", (0,)), ("m", (1,)), ("m", (0,))):
            j.receive(("chunk", (0, "chunk", name, chunk), octets_of(name, chunk)))
        self.assert_same(plain(j.sends()), [(0, self.load("kk", (1,))), (0, self.load("m", (3,))), (0, self.work(
            query, 0, ((0, 4),), ["kk", "m"], [("kk", (0,)), ("m", (0,)), ("m", (1,))]))])

    def test_the_octets_that_came_are_handed_on(self):
        j = job(K)
        j.receive(("chunk", (0, "chunk", "kk", (0,)), (1, 2, 3, 0, 0, 1)))
        self.assert_same(j.sends()[1][1][5], (("kk", (0,), (1, 2, 3, 0, 0, 1)),))

    def test_the_states_of_a_region(self):
        j = job(M)
        fetches = [(0, self.fetch("m", (k,))) for k in (0, 1, 3)]
        self.assertIsNone(j.receive(("part", (0, "part", 2), ())))
        self.assert_same(plain(j.sends()), fetches)
        j.receive(("chunk", (0, "chunk", "m", (1,)), octets_of("m", (1,))))
        works = [(0, self.work(M, 1, ((3, 5),), ["m"], [("m", (1,))]))]
        self.assert_same(plain(j.sends()), fetches[:1] + fetches[2:] + works)
        self.assert_same(plain(j.sends()), fetches[:1] + fetches[2:] + works)
        j.receive(("part", (0, "part", 1), (((4,), (2,)),)))
        self.assert_same(plain(j.sends()), fetches[:1] + fetches[2:])
        # A part that comes again is ignored, whatever it has.
        j.receive(("part", (0, "part", 1), (((3,), (9,)),)))
        j.receive(("part", (0, "part", 2), (((6,), (9,)),)))
        for k in (0, 3):
            j.receive(("chunk", (0, "chunk", "m", (k,)), octets_of("m", (k,))))
        self.assert_same([message[1] for _, message in j.sends()], [(0, "part", 0), (0, "part", 3)])
        self.assert_same(j.is_done(), False)
        j.receive(("part", (0, "part", 3), (((9,), (5,)),)))
        self.assert_same([message[1] for _, message in j.sends()], [(0, "part", 0)])
        j.receive(("part", (0, "part", 0), (((1,), (7,)), ((2,), (1,)))))
        self.assert_same([j.sends(), j.is_done()], [[], True])
        self.assertEqual(j.answer(), ARRAYS["m"])

    def test_replies_to_a_job_that_is_done(self):
        j = job(("box", M, (("x", 6, 8),)))
        for index in range(3):
            j.receive(("part", (0, "part", index), ()))
        self.assert_same([j.is_done(), j.sends()], [True, []])
        j.receive(("part", (0, "part", 0), (((6,), (1,)),)))
        self.assert_same([j.is_done(), j.sends(), j.answer().cells], [True, [], {}])

    def test_numbers(self):
        for count in (1, 2, 3, 7):
            query = ("shift", ("either", M, K), (("x", 4),))
            j = Job(12, 99, query, MemorySource(ARRAYS), count)
            needs = [("kk", (0,)), ("kk", (1,)), ("m", (0,)), ("m", (1,)), ("m", (3,))]
            self.assert_same(plain(j.sends()), [(owner_of((99, name, chunk), count), self.fetch(name, chunk, 12, 99)) for name, chunk in needs])
            for name, chunk in needs:
                j.receive(("unknown", (12, "chunk", name, chunk)))
            self.assert_same(plain(j.sends()), [(owner_of((99, name, chunk), count), self.load(name, chunk, 12, 99)) for name, chunk in needs])
            for name, chunk in needs:
                j.receive(("chunk", (12, "chunk", name, chunk), octets_of(name, chunk)))
            wanted = [[0, 2], [0, 1, 3], [1], [1, 4]]
            self.assert_same(plain(j.sends()), [
                (index % count, self.work(query, index, ((4 + 3 * index, min(6 + 3 * index, 13)),), ["kk", "m"],
                                          [needs[at] for at in wanted[index]], 12)) for index in range(4)])

    def test_the_plan_is_sent(self):
        query = ("keep", ("with", M, (("v", ("add", V, ("value", "int", 10))),)), ("gt", V, ("value", "int", 13)))
        source = MemorySource(ARRAYS)
        j = Job(0, 5, query, source, 1)
        told = plan(query, source)
        self.assert_same(told[0], "with")
        self.assert_same(plain(j.sends()), [(0, self.fetch("m", (0,))), (0, self.fetch("m", (3,))), (0, self.work(told, 1, ((3, 5),), ["m"], [])),
                                            (0, self.work(told, 2, ((6, 8),), ["m"], []))])

    def test_only_the_shapes_that_are_scanned(self):
        query = ("across", ("named", ("scan", "z"), (("x", "y"), ("v", "u"))), K)
        message = Job(0, 5, ("box", query, (("x", 5, 8),)), MemorySource({"z": Array(LINE, {}), "a": ARRAYS["m"], "kk": Array(LINE, {})}), 1)
        self.assert_same([name for name, _ in message.sends()[0][1][4]], ["kk", "z"])


class AnswerTest(Case):
    def settled(self, j, count):
        """Does all that a job has to do, with some workers, and returns the number of rounds."""
        workers = [Worker() for _ in range(count)]
        rounds = 0
        while not j.is_done():
            for number, message in j.sends():
                j.receive(workers[number].receive(message))
            rounds += 1
        return rounds

    def test_rounds(self):
        # Fetching, loading, fetching again, and working.
        self.assert_same(self.settled(job(M, 3), 3), 4)
        for count in (1, 2, 5):
            j = job(("window", ("either", K, M), (("x", 1, 0),), (("s", "sum", V),)), count)
            self.settled(j, count)
            self.assertEqual(j.answer(), tell(("window", ("either", K, M), (("x", 1, 0),), (("s", "sum", V),)), ARRAYS))

    def test_no_chunk_to_read(self):
        for query in (("keep", M, ("gt", V, ("value", "int", 99))), ("box", M, (("x", 6, 8),)), ("filled", ("box", M, (("x", 6, 8),)), (4,))):
            j = job(query, 2)
            self.assertNotIn("fetch", [message[0] for _, message in j.sends()])
            self.assert_same([len(set(map(tuple, j.needs()))), self.settled(j, 2)], [1, 1])
            self.assertEqual(j.answer(), tell(query, ARRAYS))

    def test_the_answer_is_a_new_one(self):
        j = job(M, 2)
        self.settled(j, 2)
        j.answer().cells.clear()
        self.assertEqual(j.answer(), ARRAYS["m"])

    def test_a_source_without_arrays(self):
        self.assert_error(InvalidQuery, 0, Job, 0, 1, M, MemorySource({}), 1)
        j = Job(0, 1, M, MemorySource({"m": Array(LINE, {})}), 3)
        self.assert_same([j.needs(), self.settled(j, 3), j.answer().cells], [[[], []], 1, {}])

    def test_many_queries(self):
        rolls = random.Random(14)
        for turn, query in enumerate(made.queries(250, 61)):
            arrays = made.some_arrays(rolls)
            source = MemorySource(arrays)
            count = turn % 4 + 1
            j = Job(turn, 3, query, source, count)
            needed = {need for needs in j.needs() for need in needs}
            for worker, message in j.sends():
                self.assertLess(worker, count)
            self.settled(j, count)
            self.assertEqual(j.answer(), tell(query, arrays))
            self.assertEqual(set(source.reads()) - needed, set())
