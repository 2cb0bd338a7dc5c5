"""Towns: quarters, and bridges between them."""

from bridgecrews.asking import check_town


class Town:
    def __init__(self, quarters, bridges):
        check_town(quarters, bridges)
        self.quarters = quarters
        # A copy, so that a later change of the list that was handed in does not reach the town.
        self.bridges = list(bridges)
