"""Over the whole program: a query as a text has the same answer wherever it is asked."""

import random

from manysides.clusters import Cluster
from manysides.database import Database
from manysides.disk import Disk
from manysides.errors import InvalidWords, PowerLost
from manysides.parsing import parse_query
from manysides.parts import answer_chunks, plan, run
from manysides.printing import print_query
from manysides.sources import MemorySource
from manysides.store import Store
from manysides.stored import StoreSource, array_names, read_array
from manysides.teller import tell
from manysides.tokens import split_words
from tests import made
from tests.helpers import Case


def is_short(text):
    """Returns True if a text has no more words than a query may have."""
    try:
        split_words(text)
    except InvalidWords:
        return False
    return True


class WholeTest(Case):
    def database(self, rolls, arrays):
        """Returns a disk, and a database on it that has some arrays, put there by several commits."""
        disk = Disk()
        d = Database(disk, room=rolls.choice((0, 1, 16)))
        for name in sorted(arrays):
            s = d.begin()
            self.assert_same(d.create(s, name, arrays[name].shape), True)
            places = sorted(arrays[name].cells)
            # Some cells have other values at first.
            d.put(s, name, {place: arrays[name].cells[places[0]] for place in places[::2]})
            d.commit(s)
            s = d.begin()
            d.put(s, name, arrays[name].cells)
            d.commit(s)
        return disk, d

    def assert_all_answers(self, disk, d, arrays, texts, rolls):
        store = Store(disk.lose([]))
        version = store.latest()
        self.assert_same(array_names(store, version), sorted(arrays))
        for name in arrays:
            self.assertEqual(read_array(store, version, name), arrays[name])
        source = StoreSource(store, version, 3)
        s = d.begin()
        cluster = Cluster(source, version, rolls.randint(1, 4))
        for text in texts:
            query = parse_query(text)
            answer = tell(query, arrays)
            self.assertEqual(d.ask_text(s, text), answer)
            self.assertEqual(d.ask(s, query), answer)
            self.assertEqual(run(plan(query, source), source), answer)
            self.assertEqual({place: cells[place] for _, cells in answer_chunks(query, source) for place in cells}, answer.cells)
            self.assert_same(cluster.move(("ask", query)), True)
        for _ in range(40):
            word = rolls.choice(("send", "deliver", "receive", "lose", "fall", "double"))
            worker = rolls.randrange(len(cluster.workers))
            cluster.move({"send": (word, rolls.randrange(len(texts))), "fall": (word, worker)}.get(word, (word, worker, 0)))
        cluster.settle()
        for text, job in zip(texts, cluster.jobs):
            self.assertEqual(job.answer(), tell(parse_query(text), arrays))
        d.abort(s)

    def test_queries_as_texts(self):
        rolls = random.Random(16)
        texts = [print_query(query) for query in made.queries(400, 81)]
        texts = [text for text in texts if is_short(text)]
        self.assertGreater(len(texts), 300)
        for turn in range(30):
            arrays = made.some_arrays(rolls)
            disk, d = self.database(rolls, arrays)
            self.assert_all_answers(disk, d, arrays, rolls.sample(texts, 8), rolls)
            # A change whose commit loses the power is there wholly or not at all.
            name = rolls.choice(sorted(arrays))
            behind = dict(arrays)
            behind[name] = made.changed(rolls, arrays[name], made.some_region(rolls, arrays[name].shape))
            s = d.begin()
            d.put(s, name, behind[name].cells)
            d.take(s, name, [place for place in arrays[name].cells if place not in behind[name].cells])
            latest = d.latest()
            disk.allow(rolls.randint(0, 12))
            try:
                d.commit(s)
            except PowerLost:
                pass
            disk = disk.lose([rolls.randint(0, 9) for _ in range(rolls.randint(0, 6))])
            d = Database(disk)
            self.assertIn(d.latest(), (latest, latest + 1))
            told = behind if d.latest() > latest else arrays
            self.assert_all_answers(disk, d, told, rolls.sample(texts, 4), rolls)
            d.tidy()
            self.assert_all_answers(disk, d, told, rolls.sample(texts, 4), rolls)
            self.assertEqual(tell(("scan", name), told), run(("scan", name), MemorySource(told)))

    def test_keeping_answers(self):
        rolls = random.Random(17)
        for query in made.queries(80, 82):
            arrays = made.some_arrays(rolls)
            disk, d = self.database(rolls, arrays)
            s = d.begin()
            self.assertIsNone(d.keep(s, "kept", query))
            answer = tell(query, arrays)
            self.assertEqual(d.ask_text(s, "kept"), answer)
            number = d.commit(s)
            self.assertEqual(read_array(Store(disk.lose([])), number, "kept"), answer)
            self.assertEqual(d.ask_text(d.begin(), "kept | box"), answer)
