"""A quay and the ships that lie along it; ships are (name, first metre, length)."""
from berthline.errors import NoRoom, NoShip, Twice
from berthline.places import first_place, moved_up


def is_there(ships, name):
    return any([ship[0] == name for ship in ships])


def places_of(ships):
    return [(ship[1], ship[2]) for ship in ships]


class Quay:
    def __init__(self, length, gap):
        self.length = length
        self.gap = gap
        self.ships = []

    # The methods put a new list in the field's place and leave the old one as it is:
    # a list that was read from the field earlier goes on telling the berths of then.

    def come(self, name, length):
        # The order of the three refusals is promised.
        if length < 1:
            raise NoShip("a ship has a length of one metre at least")
        if is_there(self.ships, name):
            raise Twice(f"a ship called {name!r} is there already")
        place = first_place(places_of(self.ships), length, self.gap, self.length)
        if place is None:
            raise NoRoom(f"there is no berth for {name!r}")
        self.ships = sorted(self.ships + [(name, place, length)], key=lambda ship: ship[1])
        return place

    def leave(self, name):
        if not is_there(self.ships, name):
            raise NoShip(f"no ship called {name!r} is there")
        self.ships = [ship for ship in self.ships if ship[0] != name]
        return name

    def move_up(self):
        moved = moved_up(places_of(self.ships), self.gap)
        # The berths keep the gap already, so no ship is ever moved away from nought.
        metres = sum([ship[1] - row[0] for ship, row in zip(self.ships, moved)])
        self.ships = [(ship[0], row[0], row[1]) for ship, row in zip(self.ships, moved)]
        return metres
