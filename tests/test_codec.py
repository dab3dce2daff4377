"""Tests of onceonly.codec: point 19 of the document."""

import random
import unittest

import samples
from onceonly.codec import decode_schedule, decode_system, encode_schedule, encode_system, pack_bytes, unpack_bytes
from onceonly.errors import DecodeError, InvalidCount, InvalidSchedule, InvalidSystem, InvalidWindows
from onceonly.windows import least_windows

SYSTEM = (2, ((0, 1, (0, 10), 2, 5),))
MADE = samples.made_systems(81, 40, 8, 20, 4, 99)
SMALL = samples.made_systems(82, 6, 4, 3, 3, 99)


def checksum(values):
    """Return the checksum of some values, found in one sum."""
    return sum(value * 3 ** power for power, value in enumerate(reversed(values))) % 251


def closed(values):
    """Return the bytes of some values and their checksum."""
    return bytes(list(values) + [checksum(values)])


def system_values():
    """Yield what the next byte of a system may be, and be sent this byte; return at the checksum."""
    yield [83]
    count = yield range(1, 9)
    many = yield range(0, 21 if count > 1 else 1)
    for _ in range(many):
        caller = yield range(count - 1)
        yield range(caller + 1, count)
        left = yield range(1, 5)
        offset = yield [first for first in range(100) if first + left - 1 <= 99]
        while left > 1:
            left -= 1
            offset += yield [more for more in range(1, 100) if offset + more + left - 1 <= 99]
        least = yield range(100)
        yield [more for more in range(100) if least + more <= 99]
    for _ in range(count):
        high = yield range(40)
        yield [low for low in range(256) if 256 * high + low <= 9999]


def schedule_values(calls):
    """Yield what the next byte of a schedule may be, in the same way, or an offset and None for a wrong order."""
    yield [77]
    requests = yield range(1, 10)
    many = yield range(201 if calls else 1)
    before = []
    for entry in range(many):
        request = yield range(requests)
        act = yield range(100)
        index = yield range(len(calls))
        attempt = yield range(len(calls[index][2]))
        now = [request, act, index, attempt]
        yield range(calls[index][4] - calls[index][3] + 1) if before < now else 3 + 5 * entry
        before = now


def first_wrong(data, asked):
    """Return the offset that DecodeError must have for some bytes, or None."""
    allowed = next(asked)
    for offset, value in enumerate(data):
        if isinstance(allowed, int):
            return allowed
        if value not in allowed:
            return offset
        try:
            allowed = asked.send(value)
        except StopIteration:
            if data[offset + 1:offset + 2] != bytes([checksum(data[:offset + 1])]):
                return offset + 1
            return offset + 2 if len(data) > offset + 2 else None
    return allowed if isinstance(allowed, int) else len(data)


class ExamplesTest(unittest.TestCase):
    def test_bytes(self):
        self.assertEqual(unpack_bytes(pack_bytes([83, 0, 255])), [83, 0, 255])

    def test_encode_system(self):
        self.assertEqual(unpack_bytes(encode_system((1, ()), (300,))), [83, 1, 0, 1, 44, 20])

    def test_decode_system(self):
        with self.assertRaises(DecodeError) as caught:
            decode_system(pack_bytes([83, 1, 1]))
        self.assertEqual(caught.exception.offset, 2)

    def test_schedules(self):
        self.assertEqual(decode_schedule(SYSTEM, encode_schedule(SYSTEM, 1, [(0, 0, 0, 1, 4)])), (1, [(0, 0, 0, 1, 4)]))


class BytesTest(unittest.TestCase):
    def test_values(self):
        for values in [[], [0], [255], [1, 2, 3], list(range(256)), [7] * 1000]:
            self.assertEqual(pack_bytes(values), bytes(values))
            self.assertIs(type(pack_bytes(values)), bytes)
            self.assertEqual(unpack_bytes(bytes(values)), values)
            self.assertIs(type(unpack_bytes(bytes(values))), list)

    def test_invalid_values(self):
        for values in [None, True, False, 0, 5, "", "abc", (), (1, 2), b"", b"abc", samples.HUGE]:
            with self.assertRaises(InvalidCount):
                pack_bytes(values)
        for bad in [-1, 256, True, False, None, "1", "", (), [1], b"a", samples.HUGE, -samples.HUGE]:
            for values in [[bad], [1, bad], [bad, 1], [1, 2, bad, 3]]:
                with self.assertRaises(InvalidCount):
                    pack_bytes(values)

    def test_lists_stay_as_they_were(self):
        values = [1, 2, 3]
        data = pack_bytes(values)
        values.append(4)
        self.assertEqual(unpack_bytes(data), [1, 2, 3])
        unpack_bytes(data).clear()
        self.assertEqual(unpack_bytes(data), [1, 2, 3])


class EncodeTest(unittest.TestCase):
    def test_systems(self):
        values = [83, 2, 1, 0, 1, 2, 0, 10, 2, 3, 0, 0, 0, 8]
        self.assertEqual(encode_system(SYSTEM, (0, 8)), closed(values))
        system = (8, ((0, 7, (5, 6, 50, 99), 99, 99), (3, 4, (9,), 0, 99)))
        values = [83, 8, 2, 0, 7, 4, 5, 1, 44, 49, 99, 0, 3, 4, 1, 9, 0, 99]
        values += [0, 0, 0, 1, 0, 255, 1, 0, 1, 1, 39, 15, 39, 14, 2, 3]
        self.assertEqual(encode_system(system, (0, 1, 255, 256, 257, 9999, 9998, 515)), closed(values))

    def test_schedules(self):
        self.assertEqual(encode_schedule(SYSTEM, 3, []), closed([77, 3, 0]))
        self.assertEqual(encode_schedule((1, ()), 9, []), closed([77, 9, 0]))
        schedule = [(0, 0, 0, 1, 2), (0, 99, 0, 0, 5), (2, 1, 0, 0, 3)]
        values = [77, 3, 3, 0, 0, 0, 1, 0, 0, 99, 0, 0, 3, 2, 1, 0, 0, 1]
        self.assertEqual(encode_schedule(SYSTEM, 3, schedule), closed(values))
        self.assertEqual(schedule, [(0, 0, 0, 1, 2), (0, 99, 0, 0, 5), (2, 1, 0, 0, 3)])

    def test_checksum_by_steps(self):
        value = 0
        data = encode_system(samples.WIDEST, (9999,) * 8)
        for byte in data[:-1]:
            value = (3 * value + byte) % 251
        self.assertEqual(data[-1], value)

    def test_read_again(self):
        chance = random.Random(83)
        for system in samples.SYSTEMS + MADE:
            windows = chance.choice([least_windows(system), (0,) * system[0], (9999,) * system[0]])
            data = encode_system(system, windows)
            self.assertEqual(decode_system(data), (system, windows))
            self.assertEqual(encode_system(*decode_system(data)), data)
            requests = chance.randint(1, 9)
            schedule = samples.made_schedule(chance, system, requests, 3, 0.1)[:200]
            data = encode_schedule(system, requests, schedule)
            self.assertEqual(decode_schedule(system, data), (requests, schedule))
            self.assertEqual(encode_schedule(system, *decode_schedule(system, data)), data)

    def test_errors_of_systems(self):
        for system, part, index in samples.INVALID_SYSTEMS:
            for ask in [lambda: encode_system(system, None), lambda: encode_schedule(system, 0, None),
                        lambda: decode_schedule(system, b"")]:
                with self.assertRaises(InvalidSystem) as caught:
                    ask()
                self.assertEqual((caught.exception.part, caught.exception.index), (part, index))
        for windows, index in samples.invalid_windows(4):
            with self.assertRaises(InvalidWindows) as caught:
                encode_system(samples.ORDINARY, windows)
            self.assertEqual(caught.exception.index, index)

    def test_number_of_requests(self):
        for requests in [0, 10, -1, True, False, None, "1", "", (), (1,), [1], samples.HUGE, -samples.HUGE]:
            for schedule in [[], None, [None], [(0, 0, 0, 0, 2)] * 300]:
                with self.assertRaises(InvalidCount):
                    encode_schedule(SYSTEM, requests, schedule)
        for requests in range(1, 10):
            self.assertEqual(len(encode_schedule(SYSTEM, requests, [(requests - 1, 0, 0, 0, 2)])), 9)
            with self.assertRaises(InvalidSchedule) as caught:
                encode_schedule(SYSTEM, requests, [(0, 0, 0, 0, 2), (requests, 0, 0, 0, 2)])
            self.assertEqual(caught.exception.index, 1)

    def test_invalid_schedules(self):
        for schedule, index in samples.invalid_schedules():
            with self.assertRaises(InvalidSchedule) as caught:
                encode_schedule(samples.ORDINARY, 2, schedule)
            self.assertEqual(caught.exception.index, index)

    def test_number_of_entries(self):
        schedule = [(request, act, 0, attempt, 2) for request in range(2) for act in range(100) for attempt in range(2)]
        for many in [0, 1, 199, 200]:
            data = encode_schedule(SYSTEM, 2, schedule[:many])
            self.assertEqual((len(data), data[2]), (4 + 5 * many, many))
            self.assertEqual(decode_schedule(SYSTEM, data), (2, schedule[:many]))
        for many in [201, 255, 256, 400]:
            with self.assertRaises(InvalidCount):
                encode_schedule(SYSTEM, 2, schedule[:many])
            # Wrong entries come first, also those behind the 200th one.
            with self.assertRaises(InvalidSchedule) as caught:
                encode_schedule(SYSTEM, 2, schedule[:many] + [None])
            self.assertEqual(caught.exception.index, many)


class DecodeCase(unittest.TestCase):
    def offset_of(self, decode, data):
        """Return the offset of the DecodeError of some bytes, or None if there is none."""
        try:
            decode(data)
        except DecodeError as error:
            return error.offset
        return None

    def spoiled(self, chance, data):
        """Return a list of bytes: some bytes cut off at every place, longer, and changed at every place."""
        cases = [data[:many] for many in range(len(data))] + [data + bytes([more]) for more in (0, data[-1], 255)]
        cases += [data + data, data + data[-1:] * 2]
        for place in range(len(data)):
            for value in sorted({0, 1, 2, 4, 5, 99, 100, 255} | set(chance.sample(range(256), 6))):
                changed = data[:place] + bytes([value]) + data[place + 1:]
                cases += [changed, closed(changed[:-1]), changed[:place + 1], changed[:place + 2]]
            cases.append(data[:place] + data[place + 1:])
        return cases


class DecodeSystemTest(DecodeCase):
    def check(self, values, offset):
        self.assertEqual(self.offset_of(decode_system, bytes(values)), offset, values)

    def test_each_cause(self):
        good = [83, 3, 2, 0, 2, 3, 5, 1, 90, 7, 92, 1, 2, 1, 99, 0, 0, 0, 0, 39, 15, 1, 0]
        self.check(closed(good), None)
        self.check([], 0)
        cases = {
            0: [0, 77, 82, 84, 255], 1: [0, 9, 255], 2: [21, 22, 255],
            # caller, target, number of offsets, offsets, delays
            3: [2, 3, 255], 4: [0, 3, 255], 5: [0, 5, 255], 6: [98, 99, 100, 255], 7: [0, 94, 255], 8: [0, 94, 100, 255],
            9: [100, 255], 10: [93, 255], 11: [2, 255], 12: [0, 1, 3], 13: [0, 5], 14: [100, 255], 15: [100], 16: [100],
            # windows
            17: [40, 255], 19: [40, 255], 20: [16, 17, 255], 21: [40]}
        for offset, wrong in cases.items():
            for value in wrong:
                values = good[:offset] + [value] + good[offset + 1:]
                self.check(closed(values), offset)
                # Whatever comes behind the byte, or nothing.
                self.check(values[:offset + 1], offset)
                self.check(values[:offset + 1] + [255] * 50, offset)
        edges = {6: [0, 7], 7: [2], 8: [93], 9: [0], 10: [0], 14: [0, 98], 15: [99], 16: [99], 17: [39], 18: [0, 255],
                 20: [0, 14], 21: [38], 22: [255]}
        for offset, right in edges.items():
            for value in right:
                self.check(closed(good[:offset] + [value] + good[offset + 1:]), None)
        self.check(closed(good[:17] + [39, 15] + good[19:]), None)
        self.check(closed(good[:17] + [39, 16] + good[19:]), 18)

    def test_calls_of_a_single_service(self):
        self.check([83, 1, 1], 2)
        self.check(closed([83, 1, 1, 0, 1, 1, 0, 0, 0, 0, 0]), 2)
        self.check(closed([83, 1, 0, 0, 0]), None)
        self.check([83, 1], 2)

    def test_the_last_service_calls_no_other(self):
        for count in range(2, 9):
            self.check(closed([83, count, 1, count - 1, count, 1, 0, 0, 0] + [0, 0] * count), 3)
            self.check(closed([83, count, 1, count - 2, count - 1, 1, 0, 0, 0] + [0, 0] * count), None)

    def test_missing_bytes(self):
        for system in samples.SYSTEMS + MADE[:10]:
            data = encode_system(system, (9999,) * system[0])
            for many in range(len(data)):
                self.check(data[:many], many)

    def test_checksum_and_bytes_behind_it(self):
        data = list(encode_system(SYSTEM, (0, 8)))
        for value in range(256):
            self.check(data[:-1] + [value], None if value == data[-1] else len(data) - 1)
            self.check(data[:-1] + [value, 0], len(data) if value == data[-1] else len(data) - 1)
            self.check(data + [value], len(data))
            self.check(data + [value, value], len(data))

    def test_made_bytes(self):
        chance = random.Random(84)
        told = {}
        for system in samples.SYSTEMS[:6] + SMALL:
            data = encode_system(system, tuple(chance.choice([0, 255, 256, 9999]) for _ in range(system[0])))
            for case in self.spoiled(chance, data):
                wanted = first_wrong(case, system_values())
                told[wanted is None] = told.get(wanted is None, 0) + 1
                self.check(case, wanted)
                if wanted is None:
                    self.assertEqual(encode_system(*decode_system(case)), case)
        self.assertGreater(min(told[True], told[False]), 300)

    def test_random_bytes(self):
        chance = random.Random(85)
        for _ in range(3000):
            values, asked = [], system_values()
            try:
                allowed = next(asked)
                while len(values) < 200:
                    # Mostly bytes that are allowed, so that some of them go far.
                    values.append(chance.choice(list(allowed)) if chance.random() < 0.98 else chance.randrange(256))
                    if values[-1] not in allowed:
                        values += [chance.randrange(256) for _ in range(chance.randrange(9))]
                        break
                    allowed = asked.send(values[-1])
            except StopIteration:
                values.append(checksum(values))
            self.check(values, first_wrong(bytes(values), system_values()))


class DecodeScheduleTest(DecodeCase):
    def check(self, system, values, offset):
        found = self.offset_of(lambda data: decode_schedule(system, data), bytes(values))
        self.assertEqual(found, offset, values)

    def test_each_cause(self):
        good = [77, 2, 3, 0, 0, 0, 1, 2, 0, 5, 3, 1, 1, 1, 99, 2, 0, 0]
        self.check(samples.ORDINARY, closed(good), None)
        self.check(samples.ORDINARY, [], 0)
        cases = {
            0: [0, 76, 78, 83, 255], 1: [0, 10, 255], 2: [201, 255],
            # request, act, call, attempt, delay
            3: [2, 255], 4: [100, 255], 5: [4, 255], 6: [2, 255], 7: [3, 255], 8: [2], 9: [100], 10: [4], 11: [2],
            12: [2, 255], 13: [2], 14: [100], 15: [4], 16: [1, 2], 17: [1, 255]}
        for offset, wrong in cases.items():
            for value in wrong:
                values = good[:offset] + [value] + good[offset + 1:]
                self.check(samples.ORDINARY, closed(values), offset)
                self.check(samples.ORDINARY, values[:offset + 1], offset)
                self.check(samples.ORDINARY, values[:offset + 1] + [255] * 30, offset)

    def test_numbers_of_requests_and_entries(self):
        for requests in range(1, 10):
            self.check(SYSTEM, closed([77, requests, 0]), None)
            self.check(SYSTEM, closed([77, requests, 1, requests - 1, 0, 0, 0, 0]), None)
            self.check(SYSTEM, closed([77, requests, 1, requests, 0, 0, 0, 0]), 3)
        self.check(SYSTEM, [77, 1, 200], 3)
        self.check(SYSTEM, [77, 1, 201], 2)

    def test_system_without_calls(self):
        for count in range(1, 9):
            self.check((count, ()), closed([77, 5, 0]), None)
            self.check((count, ()), closed([77, 5, 1, 0, 0, 0, 0, 0]), 2)
            self.check((count, ()), [77, 5, 1], 2)
            self.check((count, ()), [77, 5], 2)

    def test_order_of_entries(self):
        # 1 has the messages of two calls; the entry before each wrong one is (0, 1, 0, 1).
        start = [77, 2, 3, 0, 0, 1, 0, 0, 0, 1, 0, 1, 0]
        for four in [[0, 1, 0, 1], [0, 1, 0, 0], [0, 0, 3, 1], [0, 0, 0, 0]]:
            self.check(samples.ORDINARY, closed(start + four + [1]), 13)
            # It is reported even if no other byte follows, or the delay is wrong, too.
            self.check(samples.ORDINARY, start + four, 13)
            self.check(samples.ORDINARY, start + four + [255], 13)
            for many in range(4):
                self.check(samples.ORDINARY, start + four[:many], 13 + many)
            # A number that does not exist comes first.
            self.check(samples.ORDINARY, start + four[:3] + [9], 16)
            self.check(samples.ORDINARY, start + four[:2] + [9, 0], 15)
        for four in [[0, 1, 1, 0], [0, 2, 0, 0], [1, 0, 0, 0]]:
            self.check(samples.ORDINARY, closed(start + four + [0]), None)
            self.check(samples.ORDINARY, start + four, 17)

    def test_missing_bytes_and_bytes_behind(self):
        data = encode_schedule(SYSTEM, 2, [(0, 0, 0, 0, 2), (0, 7, 0, 1, 5), (1, 0, 0, 0, 3)])
        for many in range(len(data)):
            self.check(SYSTEM, data[:many], many)
        for value in range(256):
            self.check(SYSTEM, data[:-1] + bytes([value]), None if value == data[-1] else len(data) - 1)
            self.check(SYSTEM, data + bytes([value]), len(data))

    def test_made_bytes(self):
        chance = random.Random(86)
        told = {}
        for system in samples.SYSTEMS[:6] + SMALL:
            requests = chance.randint(1, 9)
            schedule = samples.made_schedule(chance, system, requests, 3, 0.1)
            schedule = sorted(chance.sample(schedule, min(len(schedule), 4)))
            for case in self.spoiled(chance, encode_schedule(system, requests, schedule)):
                wanted = first_wrong(case, schedule_values(system[1]))
                told[wanted is None] = told.get(wanted is None, 0) + 1
                self.check(system, case, wanted)
                if wanted is None:
                    self.assertEqual(encode_schedule(system, *decode_schedule(system, case)), case)
        self.assertGreater(min(told[True], told[False]), 200)


if __name__ == "__main__":
    unittest.main()
