"""What lines bring, each kept once it is reckoned, and what of several brings most or fewest."""

from roombetween.longrun import pieces_an_hour
from roombetween.orders import all_orders, in_order
from roombetween.ratio import first_fewest, first_most
from roombetween.ways import ways_of


class Brought:
    def __init__(self):
        # By chances and way, so that it stays true whatever changes.
        self.known = {}

    def brings(self, chances, way):
        asked = (tuple(chances), tuple(way))
        if asked not in self.known:
            self.known[asked] = pieces_an_hour(chances, way)
        return self.known[asked]

    # This one and the next are asked only of room that some way puts: there's one to begin with.
    def best_way(self, chances, room):
        ways = ways_of(len(chances) - 1, room)
        return ways[first_most([self.brings(chances, way) for way in ways])]

    def worst_way(self, chances, room):
        ways = ways_of(len(chances) - 1, room)
        return ways[first_fewest([self.brings(chances, way) for way in ways])]

    def best_order(self, chances, way):
        orders = all_orders(len(chances))
        return orders[first_most([self.brings(in_order(chances, order), way) for order in orders])]
