"""The answers on chosen places: that none as many cost fewer, or places that do."""

from leastrim.lists import is_choice
from leastrim.webs import cost_of, least_cost


class Answer:
    """What is told of chosen places: a Least or a Beaten."""


class Least(Answer):
    """No other places, as many as those chosen, cost fewer."""

    def shows(self, web, chosen, kind):
        """Whether it is so of these chosen places."""
        return cost_of(web, chosen, kind) == least_cost(web, len(chosen), kind)


class Beaten(Answer):
    """These places are as many as those chosen and cost fewer."""

    def __init__(self, places):
        self.places = list(places)

    def shows(self, web, chosen, kind):
        """Whether it is so of these chosen places, by the field as it stands now."""
        # The field may hold any numbers by now, so it is asked first whether they are places.
        if not is_choice(self.places, web[0]) or len(self.places) != len(chosen):
            return False
        return cost_of(web, self.places, kind) < cost_of(web, chosen, kind)
