"""Points 8.1 to 8.5: buffers."""

import unittest

from second_buffer import SecondBuffer, collapsed, drawn_block, drawn_record, drawn_room, generator, second_size

from tapline.buffers import Buffer, size_of

POLICIES = ("hold", "ring")


def record(k, size=2):
    """A record of this size, at least 2, with a mark."""
    return (k, 0, "trace", (("int", k),) * (size - 2))


def lost(n):
    return ("lost", n)


def filled(room, policy, *items):
    buffer = Buffer(room, policy)
    for item in items:
        buffer.add(item)
    return buffer


class Sizes(unittest.TestCase):
    def test_named_ones(self):
        self.assertEqual(size_of((7, 1, "say", ())), 2)
        self.assertEqual(size_of((7, 1, "trace", (("int", 5),))), 3)
        self.assertEqual(size_of((7, 1, "trace", (("int", -2 ** 63), ("int", 2 ** 63 - 1), ("int", 0)))), 5)
        self.assertEqual(size_of((7, 1, "say", (("str", ""),))), 3)
        self.assertEqual(size_of((7, 1, "say", (("str", "x" * 32),))), 35)
        self.assertEqual(size_of((7, 1, "say", (("str", "12"), ("int", 12), ("str", "int"), ("int", 345)))), 2 + 4 + 5)
        self.assertEqual(size_of((7, 1, "fault", (("str", "division"),))), 11)

    def test_records_of_other_lengths(self):
        self.assertEqual(size_of(((),)), 2)
        self.assertEqual(size_of(((("int", 1),),)), 3)
        self.assertEqual(size_of(("lost", ())), 2)

    def test_drawn_ones(self):
        chance = generator(0)
        for k in range(200):
            one = drawn_record(chance, k)
            self.assertEqual(size_of(one), second_size(one))


class New(unittest.TestCase):
    def test_at_first(self):
        for policy in POLICIES:
            buffer = Buffer(9, policy)
            self.assertEqual((buffer.used, buffer.lost, buffer.held()), (0, 0, ()))

    def test_records_in_order(self):
        for policy in POLICIES:
            buffer = Buffer(9, policy)
            self.assertIs(buffer.add(record(1, 4)), True)
            self.assertEqual(buffer.used, 4)
            self.assertIs(buffer.add(record(2, 2)), True)
            self.assertIs(buffer.add(record(3, 3)), True)
            self.assertEqual((buffer.used, buffer.lost), (9, 0))
            self.assertEqual(buffer.held(), (record(1, 4), record(2, 2), record(3, 3)))


class Hold(unittest.TestCase):
    def test_rooms(self):
        for room, fits in ((0, False), (4, False), (5, True), (6, True)):
            buffer = Buffer(room, "hold")
            self.assertIs(buffer.add(record(1, 5)), fits)
            self.assertEqual(buffer.held(), (record(1, 5),) if fits else (lost(1),))
            self.assertEqual((buffer.used, buffer.lost), (5, 0) if fits else (0, 1))

    def test_losses_at_the_end(self):
        buffer = filled(6, "hold", record(1, 4))
        for k in range(1, 4):
            self.assertIs(buffer.add(record(2, 3)), False)
            self.assertEqual(buffer.held(), (record(1, 4), lost(k)))
            self.assertEqual((buffer.used, buffer.lost), (4, k))

    def test_a_smaller_one_fits_behind_a_loss(self):
        buffer = filled(6, "hold", record(1, 4), record(2, 3), record(3, 7), record(4, 2), record(5, 2), record(6, 2))
        self.assertEqual(buffer.held(), (record(1, 4), lost(2), record(4, 2), lost(2)))
        self.assertEqual((buffer.used, buffer.lost), (6, 4))

    def test_greater_than_the_room(self):
        buffer = filled(6, "hold", record(1, 7))
        self.assertIs(buffer.add(record(2, 6)), True)
        self.assertEqual((buffer.held(), buffer.used, buffer.lost), ((lost(1), record(2, 6)), 6, 1))


class Ring(unittest.TestCase):
    def test_rooms(self):
        for room, fits in ((0, False), (4, False), (5, True), (6, True)):
            buffer = Buffer(room, "ring")
            self.assertIs(buffer.add(record(1, 5)), fits)
            self.assertEqual(buffer.held(), (record(1, 5),) if fits else (lost(1),))
            self.assertEqual((buffer.used, buffer.lost), (5, 0) if fits else (0, 1))

    def test_the_first_ones_give_way(self):
        buffer = filled(10, "ring", record(1, 4), record(2, 3), record(3, 3))
        self.assertIs(buffer.add(record(4, 4)), True)
        self.assertEqual((buffer.held(), buffer.used, buffer.lost), ((lost(1), record(2, 3), record(3, 3), record(4, 4)), 10, 1))
        self.assertIs(buffer.add(record(5, 4)), True)
        self.assertEqual((buffer.held(), buffer.used, buffer.lost), ((lost(3), record(4, 4), record(5, 4)), 8, 3))
        self.assertIs(buffer.add(record(6, 2)), True)
        self.assertEqual((buffer.held(), buffer.used, buffer.lost), ((lost(3), record(4, 4), record(5, 4), record(6, 2)), 10, 3))

    def test_no_more_than_needed(self):
        buffer = filled(6, "ring", record(1, 2), record(2, 2), record(3, 2), record(4, 3))
        self.assertEqual((buffer.held(), buffer.used), ((lost(2), record(3, 2), record(4, 3)), 5))
        buffer.add(record(5, 6))
        self.assertEqual((buffer.held(), buffer.used, buffer.lost), ((lost(4), record(5, 6)), 6, 4))

    def test_greater_than_the_room(self):
        buffer = filled(6, "ring", record(1, 2), record(2, 2))
        for k in (1, 2):
            self.assertIs(buffer.add(record(3, 7)), False)
            self.assertEqual((buffer.held(), buffer.used, buffer.lost), ((record(1), record(2), lost(k)), 4, k))
        buffer.add(record(4, 4))
        self.assertEqual((buffer.held(), buffer.used, buffer.lost), ((lost(1), record(2), lost(2), record(4, 4)), 6, 3))

    def test_losses_between_and_before(self):
        buffer = filled(6, "ring", record(1, 2), record(9, 7), record(2, 2), record(9, 7), record(3, 2), record(4, 4))
        self.assertEqual((buffer.held(), buffer.used, buffer.lost), ((lost(4), record(3, 2), record(4, 4)), 6, 4))
        buffer = filled(6, "ring", record(9, 7), record(1, 2), record(9, 7), record(2, 2), record(3, 3))
        self.assertEqual(buffer.held(), (lost(3), record(2, 2), record(3, 3)))
        buffer = filled(6, "ring", record(1, 5), record(9, 7), record(2, 3))
        self.assertEqual((buffer.held(), buffer.used, buffer.lost), ((lost(2), record(2, 3)), 3, 2))

    def test_losses_behind_what_was_taken_away(self):
        """The item that stood behind the last one taken away does not stand beside the first one."""
        buffer = filled(6, "ring", record(1, 2), record(9, 7), record(2, 4), record(3, 2))
        self.assertEqual(buffer.held(), (lost(2), record(2, 4), record(3, 2)))
        buffer.add(record(9, 8))
        buffer.add(record(4, 6))
        self.assertEqual(buffer.held(), (lost(5), record(4, 6)))


class Blocks(unittest.TestCase):
    def test_empty_ones(self):
        for policy in POLICIES:
            for room in (0, 4):
                buffer = filled(room, policy, record(1, 4))
                before = buffer.held(), buffer.used, buffer.lost
                self.assertIs(buffer.add_block(()), True)
                self.assertEqual((buffer.held(), buffer.used, buffer.lost), before)

    def test_lost_items_only(self):
        for policy in POLICIES:
            for room in (0, 4):
                buffer = Buffer(room, policy)
                self.assertIs(buffer.add_block((lost(3),)), True)
                self.assertEqual((buffer.held(), buffer.used, buffer.lost), ((lost(3),), 0, 0))
                self.assertIs(buffer.add_block((lost(2), lost(5))), True)
                self.assertEqual((buffer.held(), buffer.used, buffer.lost), ((lost(10),), 0, 0))
            buffer = filled(4, policy, record(1, 4))
            self.assertIs(buffer.add_block((lost(6),)), True)
            self.assertEqual((buffer.held(), buffer.used, buffer.lost), ((record(1, 4), lost(6)), 4, 0))

    def test_that_just_fit(self):
        block = (lost(2), record(2, 3), lost(1), record(3, 2), lost(4))
        for policy in POLICIES:
            buffer = filled(9, policy, record(1, 4))
            self.assertIs(buffer.add_block(block), True)
            self.assertEqual((buffer.held(), buffer.used, buffer.lost), ((record(1, 4),) + block, 9, 0))

    def test_that_do_not_fit(self):
        block = (lost(2), record(2, 3), lost(1), record(3, 2), lost(4))
        buffer = filled(8, "hold", record(1, 4))
        self.assertIs(buffer.add_block(block), False)
        self.assertEqual((buffer.held(), buffer.used, buffer.lost), ((record(1, 4), lost(9)), 4, 2))
        buffer = filled(8, "ring", record(1, 4))
        self.assertIs(buffer.add_block(block), True)
        self.assertEqual((buffer.held(), buffer.used, buffer.lost), ((lost(3), record(2, 3), lost(1), record(3, 2), lost(4)), 5, 1))

    def test_none_of_its_records_alone(self):
        """A block is lost as a whole, even if its first records would fit."""
        buffer = Buffer(5, "hold")
        self.assertIs(buffer.add_block((record(1, 2), record(2, 2), record(3, 2))), False)
        self.assertEqual((buffer.held(), buffer.used, buffer.lost), ((lost(3),), 0, 3))

    def test_greater_than_the_room(self):
        block = (record(2, 3), lost(5), record(3, 4))
        for policy in POLICIES:
            buffer = filled(6, policy, record(1, 4))
            self.assertIs(buffer.add_block(block), False)
            self.assertEqual((buffer.held(), buffer.used, buffer.lost), ((record(1, 4), lost(7)), 4, 2))

    def test_as_great_as_the_room(self):
        block = (record(2, 3), lost(5), record(3, 4))
        for policy in POLICIES:
            buffer = Buffer(7, policy)
            self.assertIs(buffer.add_block(block), True)
            self.assertEqual((buffer.held(), buffer.used, buffer.lost), (block, 7, 0))

    def test_ring_makes_room_for_the_whole_block(self):
        buffer = filled(8, "ring", record(1, 2), record(2, 2), record(3, 2), record(4, 2))
        self.assertIs(buffer.add_block((record(5, 3), record(6, 2))), True)
        self.assertEqual((buffer.held(), buffer.used, buffer.lost), ((lost(3), record(4, 2), record(5, 3), record(6, 2)), 7, 3))

    def test_a_lost_item_behind_all_that_was_taken_away(self):
        buffer = filled(8, "ring", record(1, 4), record(2, 3))
        self.assertIs(buffer.add_block((lost(2), record(3, 8), lost(1))), True)
        self.assertEqual((buffer.held(), buffer.used, buffer.lost), ((lost(4), record(3, 8), lost(1)), 8, 2))

    def test_a_lost_item_beside_one_at_the_end(self):
        buffer = filled(6, "hold", record(1, 3), record(2, 5))
        self.assertIs(buffer.add_block((lost(2), record(3, 3))), True)
        self.assertEqual(buffer.held(), (record(1, 3), lost(3), record(3, 3)))

    def test_the_block_stays(self):
        block = (lost(1), record(1, 2))
        filled(0, "ring").add_block(block)
        self.assertEqual(block, (lost(1), record(1, 2)))


class Reading(unittest.TestCase):
    def test_switching(self):
        for policy in POLICIES:
            buffer = filled(4, policy, record(1, 2))
            self.assertEqual(buffer.switch(), (record(1, 2),))
            self.assertEqual((buffer.held(), buffer.used, buffer.lost), ((), 0, 0))

    def test_an_empty_half(self):
        buffer = Buffer(4, "hold")
        self.assertEqual(buffer.switch(), ())
        self.assertIsNone(buffer.switch())
        self.assertIsNone(buffer.give_back())
        self.assertEqual(buffer.switch(), ())

    def test_switching_twice_without_giving_back(self):
        for policy in POLICIES:
            buffer = filled(4, policy, record(1, 2))
            first = buffer.switch()
            buffer.add(record(2, 3))
            buffer.add(record(3, 5))
            for _ in range(2):
                self.assertIsNone(buffer.switch())
                self.assertEqual((buffer.held(), buffer.used, buffer.lost), ((record(2, 3), lost(1)), 3, 1))
            buffer.give_back()
            self.assertEqual(buffer.switch(), (record(2, 3), lost(1)))
            self.assertEqual(first, (record(1, 2),))
            self.assertEqual((buffer.held(), buffer.used, buffer.lost), ((), 0, 1))

    def test_giving_back_without_a_half(self):
        buffer = filled(4, "hold", record(1, 2))
        for _ in range(2):
            self.assertIsNone(buffer.give_back())
            self.assertEqual((buffer.held(), buffer.used), ((record(1, 2),), 2))
        self.assertEqual(buffer.switch(), (record(1, 2),))
        buffer.add(record(2, 2))
        buffer.give_back()
        buffer.give_back()
        self.assertEqual(buffer.held(), (record(2, 2),))
        self.assertEqual(buffer.switch(), (record(2, 2),))
        self.assertIsNone(buffer.switch())

    def test_each_half_has_the_whole_room(self):
        for policy in POLICIES:
            buffer = filled(6, policy, record(1, 6))
            buffer.switch()
            self.assertIs(buffer.add(record(2, 6)), True)
            self.assertEqual((buffer.held(), buffer.used, buffer.lost), ((record(2, 6),), 6, 0))

    def test_lost_items_at_the_border(self):
        buffer = filled(2, "hold", record(1, 2), record(2, 2))
        self.assertEqual(buffer.switch(), (record(1, 2), lost(1)))
        buffer.add(record(3, 3))
        self.assertEqual((buffer.held(), buffer.lost), ((lost(1),), 2))

    def test_ring_takes_nothing_from_the_other_half(self):
        buffer = filled(4, "ring", record(1, 2), record(2, 2))
        read = buffer.switch()
        for k in range(3, 6):
            buffer.add(record(k, 2))
        self.assertEqual((read, buffer.held(), buffer.lost), ((record(1), record(2)), (lost(1), record(4), record(5)), 1))

    def test_what_was_held_stays(self):
        buffer = filled(4, "ring", record(1, 4))
        before = buffer.held()
        buffer.add(record(2, 4))
        self.assertEqual((before, buffer.held()), ((record(1, 4),), (lost(1), record(2, 4))))


class Compared(unittest.TestCase):
    """Point 8.5, for drawn rows of records, blocks and readings."""

    def test_drawn_rows(self):
        seen = {"full": 0, "lost": 0, "none": 0, "border": 0}
        for seed in range(400):
            chance = generator(seed)
            room, policy = drawn_room(chance), POLICIES[seed % 2]
            buffer, second, read = Buffer(room, policy), SecondBuffer(room, policy), []
            for k in range(chance.choice((5, 30, 80))):
                what = chance.random()
                if what < 0.6:
                    one = drawn_record(chance, k)
                    self.assertIs(buffer.add(one), second.add_block((one,)))
                elif what < 0.8:
                    block = drawn_block(chance, k)
                    self.assertIs(buffer.add_block(block), second.add_block(block))
                elif what < 0.9:
                    items = buffer.switch()
                    self.assertEqual(items, second.switch())
                    seen["none"] += items is None
                    read += [items] if items is not None else []
                else:
                    self.assertEqual(buffer.give_back(), second.give_back())
                self.assertEqual((buffer.held(), buffer.used, buffer.lost), (second.held(), second.used(), second.lost))
                seen["full"] += buffer.used == room > 0
                seen["lost"] += buffer.lost > 0
            whole = tuple(item for items in read + [buffer.held()] for item in items)
            self.assertEqual(whole, tuple(item for part in second.parts for item in collapsed(part)))
            marks = [(None, item[1]) if item[0] == "lost" else (item, 1) for item in whole]
            self.assertEqual(collapsed(marks), collapsed([mark for part in second.parts for mark in part]))
            seen["border"] += whole != collapsed(marks)
        self.assertGreater(min(seen.values()), 40, seen)


if __name__ == "__main__":
    unittest.main()
