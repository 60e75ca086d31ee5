"""What the other gains at best, who sees of each day, behind it, whether it was looked at.

Each gain here is the mean gain times the weight of the plans that may still be the drawn one: that is a whole
number, and the gains of two parts of the plans add up to the gain of both. So it is with all that comes of a play.
"""

from plansoflooks.daysets import looking, resting, weight_of


class Game:
    """So many days under one fine."""

    def __init__(self, days, fine):
        self.days = days
        self.fine = fine

    def ended(self, plans, day, misdeeds):
        """Whether nothing can be gained or lost any more; without plans this is never come to."""
        return day == self.days or misdeeds == 0 or len(plans) == 0

    def best(self, plans, day, misdeeds):
        """The gain from the day on, daring or waiting as well as can be."""
        if self.ended(plans, day, misdeeds):
            return 0
        return max(self.daring(plans, day, misdeeds), self.waiting(plans, day, misdeeds))

    def daring(self, plans, day, misdeeds):
        """The gain if they dare on the day, of one misdeed or more; if they're seen nothing comes behind."""
        unseen = resting(plans, day)
        lost = self.fine * weight_of(looking(plans, day))
        return weight_of(unseen) + self.best(unseen, day + 1, misdeeds - 1) - lost

    def waiting(self, plans, day, misdeeds):
        """The gain if they wait on the day."""
        looked_at = self.best(looking(plans, day), day + 1, misdeeds)
        return looked_at + self.best(resting(plans, day), day + 1, misdeeds)

    def played(self, plans, day, misdeeds):
        """How often they're caught and how many misdeeds are done unseen, daring wherever waiting gets no more."""
        if self.ended(plans, day, misdeeds):
            return (0, 0)
        seen = looking(plans, day)
        unseen = resting(plans, day)
        if self.daring(plans, day, misdeeds) >= self.waiting(plans, day, misdeeds):
            behind = self.played(unseen, day + 1, misdeeds - 1)
            return (weight_of(seen) + behind[0], weight_of(unseen) + behind[1])
        looked_at = self.played(seen, day + 1, misdeeds)
        left_alone = self.played(unseen, day + 1, misdeeds)
        return (looked_at[0] + left_alone[0], looked_at[1] + left_alone[1])
