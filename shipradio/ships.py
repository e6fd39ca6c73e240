"""The list of ships, and the calls on it."""

from shipradio.lines import NotALine, OtherSum, read_sentence
from shipradio.messages import NoMessage, read_message
from shipradio.parts import PartMisfit, Waiting
from shipradio.writing import ship_line

LINE_CALL = 1

MOST_BYTES = 1024
LEAST_ROOM = 512
MOST_ROOM = 1048576
MOST_SHIPS = 256


class Ship:
    def __init__(self):
        self.heard = 0
        self.known = {}


class Ships:
    def __init__(self):
        self.time = 0
        self.waiting = Waiting()
        self.ships = {}

    def hear_line(self, now, count, most, row):
        if not 0 <= count <= MOST_BYTES or not LEAST_ROOM <= most <= MOST_ROOM:
            return [-1]
        # The document sets the time ahead of the other refusals, so it goes on with them too.
        self.time = max(self.time, now)
        try:
            return self.take_line(row)
        except NotALine:
            return [-2]
        except OtherSum:
            return [-3]
        except PartMisfit:
            return [-4]
        except NoMessage:
            return [-5]

    def take_line(self, row):
        bits = self.waiting.take(read_sentence(row), self.time)
        if bits is None:
            return [0]
        message = read_message(bits)
        self.keep(message)
        line = ship_line(message.ship, message.told)
        return [len(line)] + line

    def keep(self, message):
        if message.ship not in self.ships:
            self.make_room()
            self.ships[message.ship] = Ship()
        ship = self.ships[message.ship]
        ship.heard = self.time
        ship.known.update(message.told)

    def make_room(self):
        if len(self.ships) == MOST_SHIPS:
            # Pairs, so that of ships heard at the same time the least number comes first.
            oldest = min([(ship.heard, number) for number, ship in self.ships.items()])
            self.ships.pop(oldest[1])

    def list_ships(self, most):
        if not 0 <= most <= MOST_ROOM:
            return [-1]
        lines = []
        for number in sorted(self.ships):
            lines.extend(ship_line(number, self.ships[number].known))
        if len(lines) > most:
            return [-6]
        return [len(lines)] + lines


def answers(calls):
    ships = Ships()
    answered = []
    at = 0
    while at < len(calls):
        if calls[at] == LINE_CALL:
            end = at + 5 + calls[at + 4]
            answer = ships.hear_line(calls[at + 1], calls[at + 2], calls[at + 3], calls[at + 5:end])
        else:
            end = at + 2
            answer = ships.list_ships(calls[at + 1])
        answered.append(len(answer))
        answered.extend(answer)
        at = end
    return answered
