"""What the other gains at best, who sees of each day, behind it, whether it was looked at.

Each gain here is the mean gain times the weight of the plans that may still be the drawn one: that is a whole
number, and the gains of two parts of the plans add up to the gain of both.
"""

from plansoflooks.daysets import looking, resting, weight_of


class Game:
    """So many days under one fine."""

    def __init__(self, days, fine):
        self.days = days
        self.fine = fine

    def best(self, plans, day, misdeeds):
        """The gain from the day on, daring or waiting as well as can be."""
        if day == self.days or misdeeds == 0 or len(plans) == 0:
            return 0
        return max(self.daring(plans, day, misdeeds), self.waiting(plans, day, misdeeds))

    def daring(self, plans, day, misdeeds):
        """The gain if they dare on the day, of one misdeed or more; if they're seen nothing comes behind."""
        unseen = resting(plans, day)
        lost = self.fine * weight_of(looking(plans, day))
        return weight_of(unseen) + self.best(unseen, day + 1, misdeeds - 1) - lost

    def waiting(self, plans, day, misdeeds):
        """The gain if they wait on the day."""
        looked_at = self.best(looking(plans, day), day + 1, misdeeds)
        return looked_at + self.best(resting(plans, day), day + 1, misdeeds)
