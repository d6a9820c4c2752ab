"""Points 27.1 to 27.3: clusters."""

import random

from manysides.arrays import Array
from manysides.clusters import Cluster
from manysides.disk import Disk
from manysides.jobs import Job
from manysides.queries import operators
from manysides.shapes import Shape
from manysides.sources import MemorySource
from manysides.store import Store
from manysides.stored import StoreSource, stored_array
from manysides.teller import tell
from manysides.workers import Worker, owner_of
from tests import made
from tests.helpers import Case

SHAPE = Shape((("x", 0, 9, 3),), (("v", "int"),))
ARRAYS = {"m": Array(SHAPE, {(1,): (7,), (2,): (1,), (4,): (2,), (9,): (5,)}), "k": Array(SHAPE, {(0,): (3,), (9,): (4,)})}
M, K = ("scan", "m"), ("scan", "k")
V = ("attr", "v")
MOVES = ("send", "deliver", "deliver", "deliver", "receive", "receive", "lose", "lose back", "double", "double back", "fall")


def cluster(count=2, arrays=ARRAYS):
    return Cluster(MemorySource(arrays), 5, count)


def state_of(c):
    """Returns what tells a cluster."""
    return [[worker.held() for worker in c.workers], [c.on_way(w) for w in range(len(c.workers))],
            [c.on_way_back(w) for w in range(len(c.workers))],
            [(job.is_done(), [message[:2] for _, message in job.sends()]) for job in c.jobs]]


class MoveTest(Case):
    def assert_impossible(self, c, *moves):
        before = state_of(c)
        for move in moves:
            self.assert_same(self.assert_unchanged(c.move, move), False)
            self.assertEqual(state_of(c), before)

    def test_at_first(self):
        for count in (1, 2, 5):
            c = cluster(count)
            self.assert_same([len(c.workers), c.jobs, [c.on_way(w) + c.on_way_back(w) for w in range(count)]], [count, [], [[]] * count])
            self.assertIsInstance(c.workers, list)
            for worker in c.workers:
                self.assertIsInstance(worker, Worker)
            self.assert_impossible(c, ("send", 0), ("deliver", 0, 0), ("receive", 0, 0), ("lose", 0, 0), ("lose back", 0, 0),
                                   ("double", 0, 0), ("double back", 0, 0), ("fall", count), ("fall", -1), ("send", -1))

    def test_ask(self):
        c = cluster()
        self.assert_same([c.move(("ask", M)), len(c.jobs)], [True, 1])
        self.assert_impossible(c, ("ask", ("scan", "none")), ("ask", ("keep", M, V)), ("ask", ("join", M, M)))
        self.assert_same([c.move(("ask", K)), c.move(("ask", M)), len(c.jobs)], [True, True, 3])
        for number, job in enumerate(c.jobs):
            self.assertIsInstance(job, Job)
            self.assert_same({message[1][0] for _, message in job.sends()}, {number})
        self.assert_same({message[2][0] for _, message in c.jobs[0].sends() if message[0] == "fetch"}, {5})
        self.assert_same([c.on_way(0), c.on_way(1)], [[], []])

    def test_send(self):
        c = cluster()
        c.move(("ask", M)), c.move(("ask", K))
        self.assert_impossible(c, ("send", 2), ("send", -1), ("send", -2))
        sends = c.jobs[1].sends()
        self.assert_same(c.move(("send", 1)), True)
        for w in (0, 1):
            self.assertEqual(c.on_way(w), [message for worker, message in sends if worker == w])
        self.assertGreater(len(c.on_way(0)), 0)
        self.assertGreater(len(c.on_way(1)), 0)
        first = [c.on_way(w) for w in (0, 1)]
        self.assert_same([c.move(("send", 0)), c.move(("send", 1))], [True, True])
        for w in (0, 1):
            wanted = first[w] + [message for worker, message in c.jobs[0].sends() if worker == w] + first[w]
            self.assertEqual(c.on_way(w), wanted)
        self.assert_same([c.on_way_back(0), c.on_way_back(1)], [[], []])

    def test_sending_for_a_job_that_is_done(self):
        c = cluster()
        c.move(("ask", M)), c.settle()
        self.assert_impossible(c, ("send", 0))

    def test_deliver_and_receive(self):
        c = cluster(1)
        c.move(("ask", M)), c.move(("send", 0))
        labels = [message[1] for message in c.on_way(0)]
        self.assert_same(labels, [(0, "chunk", "m", (0,)), (0, "chunk", "m", (1,)), (0, "chunk", "m", (3,)), (0, "part", 2)])
        self.assert_impossible(c, ("deliver", 0, 4), ("deliver", 0, -1), ("deliver", 1, 0), ("deliver", -1, 0), ("receive", 0, 0))
        self.assert_same(c.move(("deliver", 0, 1)), True)
        self.assert_same([message[1] for message in c.on_way(0)], [labels[0], labels[2], labels[3]])
        self.assert_same(c.on_way_back(0), [("unknown", labels[1])])
        self.assert_same([c.move(("deliver", 0, 2)), c.on_way_back(0)], [True, [("unknown", labels[1]), ("part", labels[3], ())]])
        self.assert_same(len(c.jobs[0].sends()), 4)
        self.assert_impossible(c, ("receive", 0, 2), ("receive", 0, -1), ("receive", 1, 0), ("receive", -1, 0))
        self.assert_same([c.move(("receive", 0, 1)), c.on_way_back(0)], [True, [("unknown", labels[1])]])
        self.assert_same([message[:2] for _, message in c.jobs[0].sends()], [("fetch", label) for label in labels[:3]])
        self.assert_same([c.move(("receive", 0, 0)), c.on_way_back(0)], [True, []])
        self.assert_same([message[:2] for _, message in c.jobs[0].sends()],
                         [("fetch", labels[0]), ("load", labels[1]), ("fetch", labels[2])])
        self.assert_same([len(c.on_way(0)), c.workers[0].held()], [2, []])

    def test_replies_go_to_their_jobs(self):
        c = cluster(1)
        for query in (M, K):
            c.move(("ask", query))
        c.move(("send", 1)), c.move(("send", 0))
        while c.move(("deliver", 0, 0)):
            pass
        while c.move(("receive", 0, 0)):
            pass
        for number in (0, 1):
            self.assert_same({message[0] for _, message in c.jobs[number].sends()}, {"load"})
            self.assert_same({message[1][0] for _, message in c.jobs[number].sends()}, {number})

    def test_each_move_changes_one_line_of_one_worker(self):
        c = cluster(2)
        c.move(("ask", M)), c.move(("send", 0))
        there = [c.on_way(0), c.on_way(1)]
        self.assertGreater(len(there[0]), 1)
        c.move(("deliver", 0, 0))
        self.assertEqual([c.on_way(0), c.on_way(1), len(c.on_way_back(0)), c.on_way_back(1)], [there[0][1:], there[1], 1, []])
        self.assert_impossible(c, ("receive", 1, 0), ("lose back", 1, 0), ("double back", 1, 0))

    def test_lose(self):
        c = cluster(1)
        c.move(("ask", M)), c.move(("send", 0))
        messages = c.on_way(0)
        self.assert_impossible(c, ("lose", 0, 4), ("lose", 0, -1), ("lose", 1, 0), ("lose back", 0, 0))
        self.assert_same([c.move(("lose", 0, 2)), c.on_way_back(0)], [True, []])
        self.assertEqual(c.on_way(0), messages[:2] + messages[3:])
        for _ in range(3):
            c.move(("deliver", 0, 0))
        replies = c.on_way_back(0)
        self.assert_same(len(replies), 3)
        self.assert_impossible(c, ("lose back", 0, 3), ("lose back", 0, -1), ("lose", 0, 0))
        self.assert_same([c.move(("lose back", 0, 1)), c.on_way_back(0)], [True, [replies[0], replies[2]]])
        self.assert_same(len(c.jobs[0].sends()), 4)

    def test_double(self):
        c = cluster(1)
        c.move(("ask", M)), c.move(("send", 0))
        messages = c.on_way(0)
        self.assert_impossible(c, ("double", 0, 4), ("double", 0, -1), ("double", 1, 0), ("double back", 0, 0))
        self.assert_same([c.move(("double", 0, 1)), c.on_way_back(0)], [True, []])
        self.assertEqual(c.on_way(0), messages + [messages[1]])
        for _ in range(5):
            c.move(("deliver", 0, 0))
        replies = c.on_way_back(0)
        self.assert_same([len(replies), replies[4]], [5, replies[1]])
        self.assert_impossible(c, ("double back", 0, 5), ("double back", 0, -1), ("double", 0, 0))
        self.assert_same([c.move(("double back", 0, 3)), c.on_way_back(0)], [True, replies + [replies[3]]])

    def test_fall(self):
        c = cluster(2)
        c.move(("ask", M)), c.move(("ask", K)), c.settle()
        held = [worker.held() for worker in c.workers]
        self.assertTrue(held[0] and held[1])
        self.assert_impossible(c, ("fall", 2), ("fall", -1))
        c.move(("ask", M)), c.move(("send", 2))
        there = [c.on_way(w) for w in (0, 1)]
        self.assert_same([c.move(("fall", 1)), [worker.held() for worker in c.workers]], [True, [held[0], []]])
        self.assertEqual([c.on_way(w) for w in (0, 1)], there)
        self.assert_same([c.move(("fall", 0)), c.move(("fall", 0)), [worker.held() for worker in c.workers]], [True, True, [[], []]])

    def test_what_is_returned_may_be_changed(self):
        c = cluster(1)
        c.move(("ask", M)), c.move(("send", 0)), c.move(("deliver", 0, 0))
        c.on_way(0).clear()
        c.on_way_back(0).clear()
        self.assert_same([len(c.on_way(0)), len(c.on_way_back(0))], [3, 1])


class SettleTest(Case):
    def test_nothing_to_do(self):
        c = cluster()
        self.assertIsNone(c.settle())
        c.move(("ask", M)), c.move(("send", 0)), c.settle()
        c.move(("ask", K)), c.settle()
        # Messages of jobs that are done stay on their way when nothing is to be done.
        c.move(("ask", M)), c.move(("send", 2)), c.move(("double", 0, 0)), c.settle()
        self.assert_same([c.on_way(0), c.on_way_back(0)], [[], []])
        c.move(("ask", ("box", M, (("x", 6, 8),)))), c.move(("send", 3))
        while not c.jobs[3].is_done():
            for w in (0, 1):
                c.move(("double", w, 0)), c.move(("deliver", w, 0)), c.move(("receive", w, 0))
        before = state_of(c)
        self.assertNotEqual(before[1], [[], []])
        c.settle()
        self.assertEqual(state_of(c), before)

    def test_answers(self):
        c = cluster(3)
        queries = [M, ("either", K, M), ("group", M, (), (("s", "sum", V),)), ("box", M, (("x", 6, 8),))]
        for query in queries:
            c.move(("ask", query))
        self.assertIsNone(c.settle())
        for query, job in zip(queries, c.jobs):
            self.assert_same(job.is_done(), True)
            self.assertEqual(job.answer(), tell(query, ARRAYS))
        # Each worker holds the keys that it owns.
        held = [(w, key) for w, worker in enumerate(c.workers) for key in worker.held()]
        self.assert_same(len(held), 5)
        for w, key in held:
            self.assert_same(owner_of(key, 3), w)

    def test_jobs_that_are_done_send_nothing(self):
        c = cluster(1)
        c.move(("ask", M)), c.settle()
        c.move(("ask", M)), c.move(("send", 1)), c.move(("lose", 0, 0))
        c.settle()
        self.assert_same([c.on_way(0), c.on_way_back(0), c.jobs[1].is_done()], [[], [], True])

    def test_falling_in_between(self):
        c = cluster(2)
        c.move(("ask", M)), c.move(("ask", ("either", M, K)))
        for turn in range(12):
            for number in (0, 1):
                c.move(("send", number))
            for w in (0, 1):
                c.move(("deliver", w, 0)), c.move(("receive", w, 0))
                c.move(("fall", w))
        c.settle()
        self.assertEqual([job.answer() for job in c.jobs], [tell(M, ARRAYS), tell(("either", M, K), ARRAYS)])

    def check_messages(self, c, queries):
        """Each message is of a job, and names only chunks that it needs."""
        for w, worker in enumerate(c.workers):
            for message in c.on_way(w) + c.on_way_back(w):
                number, word, *facts = message[1]
                self.assertLess(number, len(c.jobs))
                needs = c.jobs[number].needs()
                if word == "chunk":
                    self.assertIn(tuple(facts), {need for row in needs for need in row})
                    if message[0] in ("fetch", "load"):
                        self.assert_same(message[2], (5, *facts))
                        self.assert_same(owner_of(message[2], len(c.workers)), w)
                elif message[0] == "work":
                    self.assert_same([row[:2] for row in message[5]], needs[facts[0]])
                    self.assert_same(w, facts[0] % len(c.workers))
                    self.assert_same([name for name, _ in message[4]],
                                     sorted({part[1] for part in operators(queries[number]) if part[0] == "scan"}))

    def test_many_moves(self):
        rolls = random.Random(15)
        made_queries = made.queries(160, 71, 2)
        for turn in range(60):
            arrays = made.some_arrays(rolls)
            if turn % 2:
                source = MemorySource(arrays)
            else:
                store = Store(Disk())
                store.put({f"{letter}_{name}": pair for name in arrays for letter, pair in zip("dm", stored_array(arrays[name]))})
                source = StoreSource(store, 1, turn % 3)
            c = Cluster(source, 5, turn % 4 + 1)
            queries = []
            for _ in range(rolls.choice((20, 120))):
                w, k = rolls.randrange(len(c.workers)), rolls.choice((0, 0, 0, 1, 2))
                word = rolls.choice(MOVES)
                if rolls.random() < 0.04 or not queries:
                    queries.append(rolls.choice(made_queries))
                    self.assert_same(c.move(("ask", queries[-1])), True)
                elif word in ("send", "fall"):
                    c.move((word, rolls.randrange(len(c.jobs)) if word == "send" else w))
                else:
                    lines = c.on_way_back(w) if word in ("receive", "lose back", "double back") else c.on_way(w)
                    self.assert_same(c.move((word, w, k)), k < len(lines))
            self.check_messages(c, queries)
            c.settle()
            self.check_messages(c, queries)
            for query, job in zip(queries, c.jobs):
                self.assertEqual(job.answer(), tell(query, arrays))
