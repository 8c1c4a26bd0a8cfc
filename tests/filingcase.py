"""A test case for filings in a case."""

from casemodel import Model
from exact import ExactCase
from filingmodel import processed_by_definition
from overturn.filings import processed
from rooms import changed, config_of

CONFIG = config_of("((a and (b+ or c!)) unless d)")


class FilingCase(ExactCase):

    def processed(self, case, day, filing, config=CONFIG):
        """Return what a filing tells and the case behind it, which the model has to tell, too."""
        self.assertExact(Model(config, case).flaw(), None, case)
        found = processed(config, case, day, filing)
        self.assertExact(found, processed_by_definition(config, case, day, filing), (case, day, filing))
        return found

    def rejected(self, reason, case, day, *filing, config=CONFIG):
        """Check that a filing is rejected for the reason, which leaves an equal case."""
        word, *rest = filing
        found = self.processed(case, day, (word, case[0], *rest), config)
        self.assertExact(found, (reason, (), case))

    def accepted(self, numbers, parts, case, day, *filing, config=CONFIG):
        """Check what an accepted filing reports and which parts of the case it changes; return the case."""
        word, *rest = filing
        found = self.processed(case, day, (word, case[0], *rest), config)
        self.assertExact(found, (None, numbers, changed(case, **parts)))
        return found[2]
