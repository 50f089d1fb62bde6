"""What is known of one bus. Its stops and pupils are told by their numbers in their lists: s and p."""

LONGEST_RIDE = 10000


class Stop:
    def __init__(self, place):
        self.place = place
        self.is_open = True


class Pupil:
    def __init__(self, home):
        self.home = home
        self.is_there = True


class Bus:
    def __init__(self, school, garage, walk, seats):
        self.school = school
        self.garage = garage
        self.walk = walk
        self.seats = seats
        self.halt = 0
        self.each = 0
        self.limit = LONGEST_RIDE
        self.stops = []
        self.pupils = []
        self.order = []


# A begin makes a new bus, so that nothing of an earlier one can be left over.
class Line:
    def __init__(self):
        self.bus = None
