"""Points 140 to 144."""

import copy
import unittest

from labelgrid.addresses import SHEET, cells_of
from labelgrid.desk import Desk
from labelgrid.low import alike, secret
from labelgrid.mirrors import Mirror, Station
from tests import spelled
from tests.helpers import area_of, at, book_of, boxes_in, grant_of, num, small_book, source_of
from tests.slowdesk import random_deed

DENIED = ("denied",)


def changes(**table):
    """A list of pairs of an address and what is seen, in the order of the call."""
    return [(at(name), value) for name, value in table.items()]


class StationTest(unittest.TestCase):
    def setUp(self):
        self.desk = Desk(book_of({"A1": "1", "A2": "=A1", "B1": "5", "A3": "=RSUM(B1:B2)"}, [("B1:B9", [0])], [grant_of("B1:B2")]))
        self.station = Station(self.desk)

    def put(self, name, text):
        self.desk.perform(0, ("set", at(name), text))

    def test_example(self):
        desk = Desk(book_of({}, users=1))
        station, mirror = Station(desk), Mirror()
        station.watch(0, ((0, 0), (1, 0)))
        self.assertEqual(desk.perform(0, ("set", (0, 0), "7")), ("ok", 1))
        message = station.send(0)
        self.assertEqual([message, mirror.receive(message), mirror.receive(message)], [(0, 1, [((0, 0), ("num", 70000)), ((1, 0), None)]), 1, 1])
        station.acknowledge(0, 1)
        self.assertEqual([station.send(0), mirror.picture() == station.picture(0)], [None, True])

    def test_pictures(self):
        self.station.watch(1, area_of("A1:B1"))
        self.station.watch(1, area_of("A3:A3"))
        self.assertEqual(self.station.picture(1), dict(changes(A1=num(1), B1=DENIED, A3=num(5))))
        self.assertEqual((self.station.picture(0), self.station.picture(2)), ({}, {}))
        self.put("A1", "2")
        self.assertEqual(self.station.picture(1)[at("A1")], num(2))
        self.station.picture(1).clear()
        self.assertEqual(len(self.station.picture(1)), 3)

    def test_what_users_see(self):
        for user in range(3):
            self.station.watch(user, area_of("A1:B3"))
        self.assertEqual(self.station.send(0), (0, 1, changes(A1=num(1), B1=num(5), A2=num(1), B2=None, A3=num(5), B3=None)))
        self.assertEqual(self.station.send(1), (0, 1, changes(A1=num(1), B1=DENIED, A2=num(1), B2=DENIED, A3=num(5), B3=DENIED)))
        self.assertEqual(self.station.send(2), (0, 1, changes(A1=num(1), B1=DENIED, A2=num(1), B2=DENIED, A3=DENIED, B3=DENIED)))

    def test_nothing_is_watched(self):
        self.assertIsNone(self.station.send(0))
        self.put("A1", "2")
        self.assertIsNone(self.station.send(0))
        self.station.acknowledge(0, 0)
        self.station.acknowledge(0, 1)
        self.assertIsNone(self.station.send(0))

    def test_acknowledgements(self):
        self.station.watch(0, area_of("A1:A2"))
        self.assertEqual(self.station.send(0), (0, 1, changes(A1=num(1), A2=num(1))))
        # Nothing has changed, and it is not known whether the message came through.
        self.assertEqual(self.station.send(0), (0, 1, changes(A1=num(1), A2=num(1))))
        self.put("A2", "9")
        self.assertEqual(self.station.send(0), (0, 2, changes(A1=num(1), A2=num(9))))
        self.station.acknowledge(0, 1)
        self.assertEqual(self.station.send(0), (1, 2, changes(A2=num(9))))
        self.put("A1", "7")
        self.assertEqual(self.station.send(0), (1, 3, changes(A1=num(7), A2=num(9))))
        self.station.acknowledge(0, 2)
        self.assertEqual(self.station.send(0), (2, 3, changes(A1=num(7))))
        # Old ones and those that no picture has have no effect.
        for number in [0, 1, 2, 4, 9, -1]:
            self.station.acknowledge(0, number)
            self.assertEqual(self.station.send(0), (2, 3, changes(A1=num(7))))
        self.station.acknowledge(0, 3)
        self.assertIsNone(self.station.send(0))
        self.station.acknowledge(0, 2)
        self.assertIsNone(self.station.send(0))

    def test_changes_that_were_taken_back(self):
        self.station.watch(0, area_of("A1:A1"))
        self.assertEqual(self.station.send(0)[:2], (0, 1))
        self.station.acknowledge(0, 1)
        self.put("A1", "2")
        self.put("A1", "1")
        self.assertIsNone(self.station.send(0))
        self.put("A1", "2")
        self.assertEqual(self.station.send(0), (1, 2, changes(A1=num(2))))
        self.put("A1", "1")
        # The picture is like the base, but has its own number.
        self.assertEqual(self.station.send(0), (1, 3, []))
        self.assertEqual(self.station.send(0), (1, 3, []))
        self.station.acknowledge(0, 3)
        self.assertIsNone(self.station.send(0))

    def test_more_ranges(self):
        self.station.watch(0, area_of("A1:A1"))
        self.station.send(0)
        self.station.acknowledge(0, 1)
        self.station.watch(0, area_of("A1:A2"))
        self.assertEqual(self.station.send(0), (1, 2, changes(A2=num(1))))
        self.station.acknowledge(0, 2)
        # A blank address makes another picture, too.
        self.station.watch(0, area_of("C9:C9"))
        self.assertEqual(self.station.send(0), (2, 3, changes(C9=None)))
        self.station.acknowledge(0, 3)
        self.station.watch(0, area_of("C9:C9"))
        self.assertIsNone(self.station.send(0))

    def test_users_by_themselves(self):
        for user in (0, 1):
            self.station.watch(user, area_of("A1:A1"))
            self.assertEqual(self.station.send(user)[:2], (0, 1))
        self.station.acknowledge(0, 1)
        self.assertIsNone(self.station.send(0))
        self.assertEqual(self.station.send(1)[:2], (0, 1))
        self.put("A1", "8")
        self.assertEqual(self.station.send(0)[:2], (1, 2))
        self.assertEqual(self.station.send(1)[:2], (0, 2))

    def test_order_of_changes(self):
        self.station.watch(0, area_of("A2:B3"))
        self.station.watch(0, area_of("A1:B2"))
        self.assertEqual([cell for cell, _ in self.station.send(0)[2]], cells_of(area_of("A1:B3")))

    def test_great_ranges(self):
        for row in range(0, 90, 10):
            self.station.watch(1, ((5, row), (14, row + 9)))
        self.assertEqual(len(self.station.send(1)[2]), 900)
        self.station.acknowledge(1, 1)
        self.put("G50", "1")
        self.assertEqual(self.station.send(1), (1, 2, changes(G50=num(1))))


class MirrorTest(unittest.TestCase):
    def check(self, mirror, message, number, **table):
        before = copy.deepcopy(message)
        self.assertEqual(mirror.receive(message), number)
        self.assertEqual((message, mirror.number, mirror.picture()), (before, number, dict(changes(**table))))

    def test_messages(self):
        mirror = Mirror()
        self.assertEqual((mirror.number, mirror.picture()), (0, {}))
        self.check(mirror, (0, 2, changes(A1=num(1), B1=None)), 2, A1=num(1), B1=None)
        self.check(mirror, (2, 3, changes(A1=num(2))), 3, A1=num(2), B1=None)
        # Doubled, late, with another base, and with a number that is not greater.
        for message in [(2, 3, changes(A1=num(9))), (0, 2, changes(A1=num(9))), (0, 4, changes(A1=num(9))), (2, 4, changes(A1=num(9))),
                        (4, 5, changes(A1=num(9))), (3, 3, changes(A1=num(9))), (3, 2, changes(A1=num(9)))]:
            self.check(mirror, message, 3, A1=num(2), B1=None)
        self.check(mirror, (3, 7, changes(C1=DENIED)), 7, A1=num(2), B1=None, C1=DENIED)
        self.check(mirror, (7, 8, []), 8, A1=num(2), B1=None, C1=DENIED)

    def test_what_is_passed_and_returned_may_change(self):
        mirror = Mirror()
        message = (0, 1, changes(A1=num(1)))
        mirror.receive(message)
        message[2].clear()
        mirror.picture().clear()
        self.assertEqual(mirror.picture(), dict(changes(A1=num(1))))
        self.assertEqual([box for box in boxes_in(mirror.picture()) if box in boxes_in(mirror.picture())], [])


class ChannelTest(unittest.TestCase):
    def test_messages_that_are_lost_doubled_and_late(self):
        source = source_of(143)
        numbers = {}
        for _ in range(40):
            book = small_book(source, 4, 4, 3, 40)
            desk = Desk(book[:4] + ([(SHEET, [0, 1, 2], [0, 1, 2], [0, 1, 2])] + book[4][1:], book[5]))
            station, mirror = Station(desk), Mirror()
            counted, ahead, back, last = [{}], [], [], {}
            for _ in range(60):
                kind = source.randrange(6)
                if kind == 0:
                    station.watch(1, ((0, 0), (source.randrange(4), source.randrange(4))))
                elif kind == 1:
                    desk.perform(source.randrange(3), random_deed(source, desk.book))
                elif kind == 2:
                    if station.picture(1) != counted[-1]:
                        counted.append(station.picture(1))
                    message = station.send(1)
                    acknowledged = max([number for number in last] + [0])
                    if acknowledged == len(counted) - 1:
                        self.assertIsNone(message)
                    else:
                        base, now = counted[acknowledged], counted[-1]
                        wanted = [(cell, now[cell]) for cell in spelled.row_by_row(now) if cell not in base or base[cell] != now[cell]]
                        self.assertEqual(message, (acknowledged, len(counted) - 1, wanted))
                        ahead.append(message)
                elif kind == 3 and ahead:
                    # Any message that was sent comes now, perhaps not for the last time.
                    before = mirror.number
                    message = source.choice(ahead)
                    back.append(mirror.receive(message))
                    self.assertEqual(mirror.number, message[1] if message[0] == before and message[1] > before else before)
                    self.assertEqual((mirror.picture(), back[-1]), (counted[mirror.number], mirror.number))
                elif kind == 4 and back:
                    number = source.choice(back)
                    station.acknowledge(1, number)
                    last[number] = True
                elif kind == 5:
                    station.acknowledge(1, len(counted) + source.randrange(5))
            self.assertEqual(mirror.picture(), counted[mirror.number])
            numbers[mirror.number] = True
            # All that was lost does not matter any more when a message and its acknowledgement come through.
            station.acknowledge(1, mirror.number)
            message = station.send(1)
            if message is not None and message[0] == mirror.number:
                station.acknowledge(1, mirror.receive(message))
                self.assertIsNone(station.send(1))
                self.assertEqual(mirror.picture(), station.picture(1))
        self.assertGreater(len(numbers), 4)

    def test_two_worlds(self):
        # Point 144: with books that are alike whenever something is sent, the same is sent.
        source = source_of(144)
        sent = 0
        for _ in range(60):
            book = small_book(source, 4, 4, 3, 50)
            book = book[:4] + ([(SHEET, [0, 1, 2], [0, 1, 2], [0, 1, 2])] + book[4][1:], book[5])
            desks = (Desk(book), Desk(book))
            stations = [Station(desk) for desk in desks]
            for station in stations:
                station.watch(1, ((0, 0), (3, 3)))
            for _ in range(40):
                user, deed = source.randrange(3), random_deed(source, desks[0].book)
                if secret(1, desks[0].book, (user, deed)):
                    desks[source.randrange(2)].perform(user, deed)
                else:
                    for desk in desks:
                        desk.perform(user, deed)
                if not alike(1, desks[0].book, desks[1].book):
                    continue
                messages = [station.send(1) for station in stations]
                self.assertEqual(messages[0], messages[1])
                sent += messages[0] is not None and desks[0].book != desks[1].book
                if messages[0] is not None and source.random() < 0.5:
                    for station in stations:
                        station.acknowledge(1, messages[0][1])
        self.assertGreater(sent, 30)


if __name__ == "__main__":
    unittest.main()
