"""Points 8.6 and 8.7: speculations."""

import unittest

from second_buffer import SecondBuffer, drawn_record, drawn_room, generator

from tapline.buffers import Buffer
from tapline.speculations import Speculations


def record(k, size=2):
    return (k, 0, "say", (("int", k),) * (size - 2))


def lost(n):
    return ("lost", n)


class Opening(unittest.TestCase):
    def test_no_places(self):
        speculations = Speculations(0, 10)
        self.assertEqual([speculations.begin() for _ in range(3)], [0, 0, 0])
        self.assertEqual(speculations.lost, 0)
        self.assertFalse(any(speculations.is_open(n) for n in range(-3, 4)))

    def test_all_places_taken(self):
        speculations = Speculations(2, 10)
        self.assertEqual([speculations.begin() for _ in range(4)], [1, 2, 0, 0])
        self.assertEqual([speculations.is_open(n) for n in (-1, 0, 1, 2, 3)], [False, False, True, True, False])
        self.assertIs(speculations.is_open(1), True)
        self.assertIs(speculations.is_open(0), False)

    def test_numbers_are_never_given_twice(self):
        speculations, buffer = Speculations(2, 10), Buffer(10, "hold")
        self.assertEqual([speculations.begin(), speculations.begin()], [1, 2])
        self.assertIsNone(speculations.discard(2))
        self.assertEqual([speculations.begin(), speculations.begin()], [3, 0])
        self.assertIs(speculations.commit(1, buffer), True)
        self.assertEqual([speculations.begin(), speculations.begin()], [4, 0])
        self.assertEqual([n for n in range(-2, 9) if speculations.is_open(n)], [3, 4])

    def test_an_empty_one_is_open(self):
        speculations = Speculations(1, 0)
        speculations.begin()
        self.assertEqual(speculations.held(1), ())


class Keeping(unittest.TestCase):
    def test_records_in_order(self):
        speculations = Speculations(2, 5)
        first, second = speculations.begin(), speculations.begin()
        self.assertIs(speculations.add(first, record(1, 3)), True)
        self.assertIs(speculations.add(second, record(2, 2)), True)
        self.assertIs(speculations.add(first, record(3, 2)), True)
        self.assertEqual((speculations.held(first), speculations.held(second)), ((record(1, 3), record(3, 2)), (record(2, 2),)))
        self.assertEqual(speculations.lost, 0)

    def test_records_that_do_not_fit(self):
        speculations = Speculations(2, 5)
        first, second = speculations.begin(), speculations.begin()
        self.assertEqual([speculations.add(first, record(k, size)) for k, size in ((1, 3), (2, 3), (3, 6), (4, 2), (5, 2))],
                         [True, False, False, True, False])
        self.assertEqual(speculations.held(first), (record(1, 3), lost(2), record(4, 2), lost(1)))
        self.assertIs(speculations.add(second, record(6, 6)), False)
        self.assertEqual((speculations.held(second), speculations.lost), ((lost(1),), 4))

    def test_a_room_of_nothing(self):
        speculations, buffer = Speculations(1, 0), Buffer(10, "hold")
        speculations.begin()
        for k in range(1, 4):
            self.assertIs(speculations.add(1, record(k)), False)
            self.assertEqual((speculations.held(1), speculations.lost), ((lost(k),), k))
        self.assertIs(speculations.commit(1, buffer), True)
        self.assertEqual((buffer.held(), buffer.lost, speculations.lost), ((lost(3),), 0, 3))

    def test_losses_stay_counted(self):
        speculations = Speculations(1, 2)
        for k in range(1, 4):
            number = speculations.begin()
            speculations.add(number, record(1))
            speculations.add(number, record(2))
            speculations.discard(number)
            self.assertEqual(speculations.lost, k)

    def test_a_new_one_is_empty(self):
        speculations = Speculations(1, 2)
        speculations.add(speculations.begin(), record(1))
        speculations.discard(1)
        self.assertEqual(speculations.held(speculations.begin()), ())
        self.assertIs(speculations.add(2, record(2)), True)


class Committing(unittest.TestCase):
    def started(self, *records, room=6):
        speculations = Speculations(1, room)
        speculations.begin()
        for one in records:
            speculations.add(1, one)
        return speculations

    def test_into_a_buffer_in_which_it_fits(self):
        for policy in ("hold", "ring"):
            speculations, buffer = self.started(record(1, 2), record(2, 5), record(3, 4)), Buffer(8, policy)
            buffer.add(record(9, 2))
            self.assertIs(speculations.commit(1, buffer), True)
            self.assertEqual((buffer.held(), buffer.used, buffer.lost), ((record(9), record(1), lost(1), record(3, 4)), 8, 0))
            self.assertIs(speculations.is_open(1), False)

    def test_into_a_buffer_in_which_it_does_not_fit(self):
        speculations, buffer = self.started(record(1, 2), record(2, 5), record(3, 4)), Buffer(7, "hold")
        buffer.add(record(9, 2))
        self.assertIs(speculations.commit(1, buffer), False)
        self.assertEqual((buffer.held(), buffer.used, buffer.lost), ((record(9), lost(3)), 2, 2))
        self.assertEqual((speculations.lost, speculations.is_open(1), speculations.begin()), (1, False, 2))
        speculations, buffer = self.started(record(1, 2), record(3, 4)), Buffer(7, "ring")
        buffer.add(record(9, 2))
        self.assertIs(speculations.commit(1, buffer), True)
        self.assertEqual((buffer.held(), buffer.lost), ((lost(1), record(1), record(3, 4)), 1))
        speculations, buffer = self.started(record(1, 2), record(3, 4)), Buffer(5, "ring")
        buffer.add(record(9, 2))
        self.assertIs(speculations.commit(1, buffer), False)
        self.assertEqual((buffer.held(), buffer.lost), ((record(9), lost(2)), 2))

    def test_lost_items_only(self):
        for policy in ("hold", "ring"):
            for room in (0, 2):
                speculations, buffer = self.started(record(1, 9), record(2, 9)), Buffer(room, policy)
                buffer.add(record(9, 2))
                self.assertIs(speculations.commit(1, buffer), True)
                self.assertEqual(buffer.held(), (lost(3),) if room == 0 else (record(9), lost(2)))
                self.assertEqual(buffer.lost, 1 if room == 0 else 0)

    def test_empty_ones(self):
        speculations, buffer = self.started(), Buffer(0, "hold")
        self.assertIs(speculations.commit(1, buffer), True)
        self.assertEqual((buffer.held(), speculations.is_open(1)), ((), False))

    def test_discarded_ones_go_nowhere(self):
        speculations = self.started(record(1), record(2))
        self.assertIsNone(speculations.discard(1))
        self.assertEqual((speculations.is_open(1), speculations.lost, speculations.begin()), (False, 0, 2))

    def test_what_was_held_stays(self):
        speculations = self.started(record(1))
        before = speculations.held(1)
        speculations.add(1, record(2))
        self.assertEqual((before, speculations.held(1)), ((record(1),), (record(1), record(2))))

    def test_two_do_not_touch_each_other(self):
        first, second = Speculations(1, 2), Speculations(1, 2)
        first.begin()
        first.add(1, record(1, 3))
        self.assertEqual((second.is_open(1), second.lost, second.begin()), (False, 0, 1))


class Compared(unittest.TestCase):
    def test_drawn_deeds(self):
        """Speculations and a buffer against second buffers: one for each speculation, and one."""
        seen = {"taken": 0, "lost": 0, "refused": 0, "kept": 0}
        for seed in range(200):
            chance = generator(seed)
            places, room, wide, policy = chance.choice((0, 1, 2, 5)), drawn_room(chance), drawn_room(chance), ("hold", "ring")[seed % 2]
            speculations, buffer, second = Speculations(places, room), Buffer(wide, policy), SecondBuffer(wide, policy)
            waiting, given, missing = {}, 0, 0
            for k in range(60):
                what = chance.random()
                if what < 0.25:
                    number = speculations.begin()
                    self.assertEqual(number, 0 if len(waiting) == places else given + 1)
                    if number:
                        given, waiting[number] = number, SecondBuffer(room, "hold")
                    seen["taken"] += number == 0
                elif waiting and what < 0.75:
                    number, one = chance.choice(sorted(waiting)), drawn_record(chance, k)
                    fits = waiting[number].add_block((one,))
                    self.assertIs(speculations.add(number, one), fits)
                    missing += not fits
                    self.assertEqual(speculations.held(number), waiting[number].held())
                elif waiting and what < 0.9:
                    number = chance.choice(sorted(waiting))
                    fits = second.add_block(waiting.pop(number).held())
                    self.assertIs(speculations.commit(number, buffer), fits)
                    seen["kept" if fits else "refused"] += 1
                elif waiting:
                    number = chance.choice(sorted(waiting))
                    del waiting[number]
                    self.assertIsNone(speculations.discard(number))
                self.assertEqual((buffer.held(), buffer.used, buffer.lost), (second.held(), second.used(), second.lost))
                self.assertEqual([n for n in range(-2, given + 3) if speculations.is_open(n)], sorted(waiting))
                self.assertEqual(speculations.lost, missing)
            seen["lost"] += missing
        self.assertGreater(min(seen.values()), 100, seen)


if __name__ == "__main__":
    unittest.main()
