"""The numbers of cardboxes.bounds."""

from tests.samples import StrictCase

from cardboxes.bounds import BATCH, MAX_EDITS, MAX_SWITCHES


class BoundsTest(StrictCase):
    def test_values(self):
        self.same((MAX_SWITCHES, MAX_EDITS, BATCH), (6, 60, 20))
