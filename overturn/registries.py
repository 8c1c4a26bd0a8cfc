"""The registry: submissions of several offices, which a queue passes on to a docket in their order."""

from overturn.dockets import Docket
from overturn.errors import NothingToUndo
from overturn.intake import new_queue, submitted


def submission_at(log, stamp):
    """Return the submission of the log with the stamp."""
    return [submission for submission in log if submission[:3] == stamp][0]


class Registry:
    """A queue and a docket, with the receipts of what the queue has passed on to the docket."""

    def __init__(self, config):
        """Make a registry without cases; raise BadConfig if the configuration is not valid."""
        self._docket = Docket(config)
        self._queue = new_queue(config[1])
        self._receipts = ()
        self._log = ()
        # The queue and the receipts before each submission of the log, to which undoing returns.
        self._earlier = ()

    @property
    def config(self):
        """The configuration."""
        return self._docket.config

    @property
    def day(self):
        """The day of the docket."""
        return self._docket.day

    @property
    def cases(self):
        """The cases of the docket, in the order of their numbers."""
        return self._docket.cases

    @property
    def precedents(self):
        """The precedents of the docket, the latest one last."""
        return self._docket.precedents

    @property
    def transfers(self):
        """The transfers of the docket, in their order."""
        return self._docket.transfers

    @property
    def watermarks(self):
        """The watermarks of the queue, in the order of the offices."""
        return self._queue[0]

    @property
    def pending(self):
        """The pending submissions, in the order of their stamps."""
        return tuple([submission_at(self._log, stamp) for stamp in self._queue[1]])

    @property
    def log(self):
        """The submissions that the queue has accepted, in the order of their arrival."""
        return self._log

    def __len__(self):
        """Return the number of all receipts."""
        return len(self._receipts)

    def __iter__(self):
        """Iterate over the receipts, in the order of their processing."""
        return iter(self._receipts)

    def submit(self, submissions):
        """Submit the submissions; return for each one its receipts or the reason of its rejection."""
        told = []
        for submission in submissions:
            told.append(self._submit_one(submission))
        return tuple(told)

    def _submit_one(self, submission):
        """Submit the submission and return its receipts or the reason of its rejection."""
        reason, stamps, queue = submitted(self._queue, submission[:3])
        if reason is not None:
            return reason
        self._earlier = self._earlier + ((self._queue, self._receipts),)
        self._queue = queue
        self._log = self._log + (submission,)
        receipts = ()
        for stamp in stamps:
            filing = submission_at(self._log, stamp)[3]
            receipts = receipts + (stamp + self._docket.file(stamp[0], filing),)
        self._receipts = self._receipts + receipts
        return receipts

    def undo(self, many=1):
        """Undo so many submissions and return them; raise NothingToUndo if there are fewer."""
        kept = len(self._log) - many
        if kept < 0:
            raise NothingToUndo(f"{many} submissions to undo, {len(self._log)} in the log")
        undone = self._log[kept:]
        if undone:
            self._queue, receipts = self._earlier[kept]
            # The docket has one filing in its log for each receipt.
            self._docket.undo(len(self._receipts) - len(receipts))
            self._receipts = receipts
        self._log = self._log[:kept]
        self._earlier = self._earlier[:kept]
        return undone
