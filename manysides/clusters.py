"""Clusters of workers and jobs, with lines between them (chapter 27)."""

from manysides.errors import InvalidQuery
from manysides.jobs import Job
from manysides.workers import Worker

MOVES_ON_WAYS_BACK = ("receive", "lose back", "double back")


class Cluster:
    """A cluster with some workers, whose jobs have a source and the number of its version."""

    def __init__(self, source, version, count):
        self.workers = [Worker() for _ in range(count)]
        self.jobs = []
        self._source = source
        self._version = version
        # The messages on their way to each worker, and back from it, those that were sent first at first.
        self._there = [[] for _ in range(count)]
        self._back = [[] for _ in range(count)]

    def move(self, move):
        """Performs a move. Returns True, or False if it is not possible; then nothing changes."""
        if move[0] == "ask":
            return self._ask(move[1])
        if move[0] == "send":
            return self._send(move[1])
        if move[0] == "fall":
            return self._fall(move[1])
        return self._handle(*move)

    def settle(self):
        """Sends, delivers and receives until all jobs are done."""
        while not all([job.is_done() for job in self.jobs]):
            for number in range(len(self.jobs)):
                self._send(number)
            for worker in range(len(self.workers)):
                while self._there[worker]:
                    self._handle("deliver", worker, 0)
                while self._back[worker]:
                    self._handle("receive", worker, 0)

    def on_way(self, w):
        """Returns the list of the messages on their way to a worker."""
        return list(self._there[w])

    def on_way_back(self, w):
        """Returns the list of the messages on their way back from a worker."""
        return list(self._back[w])

    def _ask(self, query):
        """Performs the move "ask"."""
        try:
            job = Job(len(self.jobs), self._version, query, self._source, len(self.workers))
        except InvalidQuery:
            return False
        self.jobs.append(job)
        return True

    def _send(self, number):
        """Performs the move "send"."""
        if not 0 <= number < len(self.jobs) or self.jobs[number].is_done():
            return False
        for worker, message in self.jobs[number].sends():
            self._there[worker].append(message)
        return True

    def _fall(self, worker):
        """Performs the move "fall"."""
        if not 0 <= worker < len(self.workers):
            return False
        self.workers[worker].fall()
        return True

    def _handle(self, word, worker, index):
        """Performs one of the moves with a message on a line."""
        lines = self._back if word in MOVES_ON_WAYS_BACK else self._there
        if not 0 <= worker < len(lines) or not 0 <= index < len(lines[worker]):
            return False
        if word in ("double", "double back"):
            lines[worker].append(lines[worker][index])
            return True
        message = lines[worker].pop(index)
        if word == "deliver":
            self._back[worker].append(self.workers[worker].receive(message))
        elif word == "receive":
            self.jobs[message[1][0]].receive(message)
        return True
