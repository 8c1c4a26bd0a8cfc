"""The docket: cases, precedents, transfers and the log of all filings."""

from overturn.configs import check_config
from overturn.errors import DayPassed, NothingToUndo
from overturn.ledgers import filed


class Docket:
    """The cases of a hierarchy of courts, which filings open and change."""

    def __init__(self, config):
        """Make a docket without cases; raise BadConfig if the configuration is not valid."""
        check_config(config)
        self._config = config
        self._cases = ()
        self._precedents = ()
        self._transfers = ()
        self._log = ()
        # The ledger before each pair of the log, to which undoing returns.
        self._earlier = ()

    def _set_ledger(self, ledger):
        """Take the cases, the precedents and the transfers from the ledger."""
        cases, precedents, transfers = ledger
        self._cases = cases
        self._precedents = precedents
        self._transfers = transfers

    @property
    def config(self):
        """The configuration."""
        return self._config

    @property
    def day(self):
        """The day of the last pair of the log, 0 if the log is empty."""
        return self._log[-1][0] if self._log else 0

    @property
    def cases(self):
        """The cases, in the order of their numbers."""
        return self._cases

    @property
    def precedents(self):
        """The precedents, the latest one last."""
        return self._precedents

    @property
    def transfers(self):
        """The transfers of the accepted filings, in their order."""
        return self._transfers

    @property
    def log(self):
        """The pairs of day and filing that were processed, in their order."""
        return self._log

    def __len__(self):
        """Return the number of cases."""
        return len(self._cases)

    def __iter__(self):
        """Iterate over the cases, in order."""
        return iter(self._cases)

    def file(self, day, filing):
        """Process the filing on the day and return what it tells; raise DayPassed on an earlier day."""
        if day < self.day:
            raise DayPassed(f"day {day} is less than day {self.day}")
        ledger = (self._cases, self._precedents, self._transfers)
        told, behind = filed(self._config, ledger, day, filing)
        self._set_ledger(behind)
        self._log = self._log + ((day, filing),)
        self._earlier = self._earlier + (ledger,)
        return told

    def rehearse(self, filings):
        """Return what file would return for the pairs one after another; the docket stays as it is."""
        other = self.clone()
        told = []
        for day, filing in filings:
            told.append(other.file(day, filing))
        return tuple(told)

    def undo(self, many=1):
        """Undo so many filings and return their pairs; raise NothingToUndo if there are fewer."""
        kept = len(self._log) - many
        if kept < 0:
            raise NothingToUndo(f"{many} filings to undo, {len(self._log)} in the log")
        undone = self._log[kept:]
        if undone:
            self._set_ledger(self._earlier[kept])
        self._log = self._log[:kept]
        self._earlier = self._earlier[:kept]
        return undone

    def clone(self):
        """Return another docket in the same state."""
        other = Docket(self._config)
        other._set_ledger((self._cases, self._precedents, self._transfers))
        other._log = self._log
        other._earlier = self._earlier
        return other

    @classmethod
    def replayed(cls, config, log):
        """Return a new docket that has processed the pairs of the log one after another."""
        docket = cls(config)
        for day, filing in log:
            docket.file(day, filing)
        return docket
