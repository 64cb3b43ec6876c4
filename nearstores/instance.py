"""What is known of the places: the state that calls change and ask about."""

from nearstores.network import shortest_distances
from nearstores.placesets import has_member, members


class Instance:
    """The people, the roads and the stores of places that are numbered from 0."""

    def __init__(self, place_count):
        self.place_count = place_count
        self.people = [1] * place_count
        self.times = [[0] * place_count for place in range(place_count)]
        self.store_set = 0

    def has_store(self, place):
        """Tell whether there is a store at the place: 1 or 0."""
        return has_member(self.store_set, place)

    def stores(self):
        """List the places with a store in increasing order."""
        return members(self.store_set, self.place_count)

    def distances(self):
        """Give a row for each place with its distances to all places; None is undefined."""
        return shortest_distances(self.times)
