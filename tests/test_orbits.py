"""Ladders [5], and the section `ladderdays/ladders.py`: `after`, `still`, `settles`."""

import random
import unittest

from ladderdays.ladders import after, settles, still
from tests.plain import Case, draw_ladder, ladder_again, number_of, numbers_of, orbit, set_from

SAME = ([], [0], 1)
BACK = ([0], [0], 1)
HUGE = 10 ** 30


def drawn(seed, many, *paces):
    """Some ladders of some paces, at times told in a longer way than needed."""
    chance = random.Random(seed)
    made = []
    while len(made) < many:
        ladder = draw_ladder(chance, chance.choice(paces), most_number=chance.choice([2, 10, 30]))
        if chance.random() < 0.5:
            ladder = ladder_again(ladder, chance.randint(0, 4), chance.randint(1, 3))
        made.append(ladder)
    return made


def settled_of(days, most):
    """What settles, by the days of an orbit long enough: by the fewest times, and then the least length."""
    for times in range(len(days) - 2 * most):
        for length in range(1, most + 1):
            shift = days[times + length] - days[times]
            if all(days[at + length] - days[at] == shift for at in range(times, len(days) - length)):
                return times, length, shift
    return None


def kept_days(ladder, end):
    return [day for day, number in enumerate(numbers_of(ladder, end)) if number == day]


class After(Case):
    def test_near(self):
        for ladder in drawn(201, 60, "none", "slow", "even", "fast"):
            for day in (0, 1, 2, 3, 5, 8, 13, 40):
                days = orbit(ladder, day, 12)
                for times in (0, 1, 2, 3, 7, 12):
                    self.answers(after, (ladder, day, times), days[times])

    def test_many_times(self):
        for ladder in drawn(202, 60, "none", "slow", "even"):
            for day in (0, 3, 7, 60):
                days = orbit(ladder, day, 200)
                for times in (13, 50, 117, 200):
                    self.answers(after, (ladder, day, times), days[times])

    def test_far_times_of_even_ladders(self):
        for ladder in drawn(203, 100, "even"):
            length = len(ladder[1])
            many = len(ladder[0]) + 60
            for day in (0, 2, 5, 19):
                # Behind so many times a place in the round comes again, or the day stays.
                days = orbit(ladder, day, many + 2 * length + 5)
                size = next(size for size in range(1, length + 1)
                            if (days[many + size] - days[many]) % length == 0)
                rise = days[many + size] - days[many]
                for more in (0, 1, 5):
                    times = many + more + size * 10 ** 29
                    self.answers(after, (ladder, day, times), days[many + more] + rise * 10 ** 29)

    def test_far_days_of_rising_ladders(self):
        for ladder in drawn(204, 80, "even"):
            start, length = len(ladder[0]), len(ladder[1])
            for day in range(start, start + length):
                if number_of(ladder, day) >= day:
                    days = orbit(ladder, day, 30)
                    for times in (0, 1, 13, 30):
                        self.answers(after, (ladder, day + length * HUGE, times), days[times] + length * HUGE)

    def test_far_days_of_falling_ladders(self):
        # From afar it takes so many times more, at the pace of a lap, to come to the same.
        for ladder in falling(205, 60):
            day, size, drop = lap_of(ladder)
            days = orbit(ladder, day, 400)
            far = 10 ** 29
            for times in (0, 1, 2, 7, 50, 400):
                self.answers(after, (ladder, day + drop * far, times + size * far), days[times])
            self.answers(after, (ladder, day + drop * far, size * far - size), day + drop)
            self.answers(after, (ladder, day + drop * far, size * (far // 2)), day + drop * (far - far // 2))
            self.answers(after, (ladder, day + drop * far, 10 ** 31), days[-1])

    def test_far_days_of_slow_ladders(self):
        for ladder in drawn(206, 40, "none", "slow") + [([], [10 ** 9] * 60, 59), ([], list(range(60)), 59)]:
            for day in (0, HUGE, HUGE + 7):
                days = orbit(ladder, day, 9000)
                for times in (0, 1, 17, 100):
                    self.answers(after, (ladder, day, times), days[times])
                self.assertEqual(days[-1], days[-2])
                self.answers(after, (ladder, day, 10 ** 31), days[-1])

    def test_fast_ladders(self):
        self.answers(after, (([], [1], 600), 10 ** 30, 12), orbit(([], [1], 600), 10 ** 30, 12)[-1])
        self.answers(after, (([], [0], 2), 0, 12), 0)
        self.answers(after, (([], [0], 2), 0, 10 ** 31), 0)
        self.answers(after, (([0, 0, 1], [2], 5), 2, 10 ** 31), 0)
        self.answers(after, (([], [0], 2), 3, 12), 3 * 2 ** 12)

    def test_by_hand(self):
        self.answers(after, (([], [1], 1), 5, 10 ** 31), 5 + 10 ** 31)
        self.answers(after, (SAME, HUGE, HUGE), HUGE)
        self.answers(after, (BACK, HUGE, HUGE - 1), 1)
        self.answers(after, (BACK, HUGE, HUGE), 0)
        self.answers(after, (BACK, HUGE, HUGE + 1), 0)
        self.answers(after, (BACK, HUGE, 1), HUGE - 1)
        self.answers(after, (([], [0, 3, 3], 3), HUGE, 10 ** 31), HUGE + 2)
        self.answers(after, (([0, 1, 1], [1, 3, 3], 3), 10 ** 30, 10 ** 31), 1)


def falling(seed, many):
    """Ladders as fast as the days that make the days of their round lesser, a place in the beginning apart."""
    chance = random.Random(seed)
    made = []
    while len(made) < many:
        _, turn, rise = draw_ladder(chance, "even")
        start = chance.randint(1, 20)
        down = turn[0] - max(0, start - chance.choice([1, 2, 3, 8]))
        turn = [number - down for number in turn]
        early = sorted(chance.randint(0, turn[0]) for _ in range(start))
        if all(number < start + place for place, number in enumerate(turn)):
            made.append((early, turn, rise))
    return made


def lap_of(ladder):
    """A day of the round of a falling ladder to whose place it comes back, in how many times, and how far down."""
    start, length = len(ladder[0]), len(ladder[1])
    far = start + length * 1000
    days = orbit(ladder, far, 10 * length)
    day = days[5 * length]
    size = next(times for times in range(1, length + 1) if (days[5 * length + times] - day) % length == 0)
    drop = day - days[5 * length + size]
    return start + (day - start) % length, size, drop


class Still(Case):
    def test_even_ladders(self):
        for ladder in drawn(211, 120, "even"):
            start, length = len(ladder[0]), len(ladder[1])
            end = start + 2 * length
            bits = [number == day for day, number in enumerate(numbers_of(ladder, end))]
            self.answers(still, (ladder,), set_from(bits, start, length))

    def test_other_ladders(self):
        for ladder in drawn(212, 200, "none", "slow", "fast"):
            days = kept_days(ladder, 1500)
            wanted = (days, days[-1] + 1 if days else 0, 1, [])
            self.answers(still, (ladder,), wanted)

    def test_far(self):
        self.answers(still, (([], [10 ** 9], 0),), ([10 ** 9], 10 ** 9 + 1, 1, []))
        self.answers(still, (([0], [10 ** 9], 0),), ([0, 10 ** 9], 10 ** 9 + 1, 1, []))
        self.answers(still, (([], [10 ** 9, 10 ** 9], 1),), ([2 * 10 ** 9 - 1, 2 * 10 ** 9], 2 * 10 ** 9 + 1, 1, []))
        self.answers(still, (([], [7, 10 ** 9], 10 ** 9),), ([], 0, 1, []))
        ladder = ([], [10 ** 9 + place for place in range(59)] + [10 ** 9 + 58], 59)
        days = [day for day in range(60 * 10 ** 9 - 600, 60 * 10 ** 9 + 600) if number_of(ladder, day) == day]
        self.assertEqual(len(days), 60)
        self.answers(still, (ladder,), (days, days[-1] + 1, 1, []))

    def test_by_hand(self):
        self.answers(still, (SAME,), ([], 0, 1, [0]))
        self.answers(still, (BACK,), ([0], 1, 1, []))
        self.answers(still, (([], [1], 1),), ([], 0, 1, []))
        self.answers(still, (([], [0, 3, 3], 3),), ([], 0, 3, [0]))
        self.answers(still, (([], [0], 2),), ([0], 1, 1, []))
        self.answers(still, (([1, 1], [2], 1),), ([], 1, 1, [0]))
        self.answers(still, (([], [0, 0, 0, 3], 5),), ([0, 3, 5, 10], 11, 1, []))


class Settles(Case):
    def test_even_ladders(self):
        for ladder in drawn(221, 150, "even"):
            most = len(ladder[1])
            for day in (0, 1, 2, 3, 5, 8, 13):
                days = orbit(ladder, day, 60 + 4 * most)
                self.answers(settles, (ladder, day), settled_of(days, most))

    def test_slow_ladders(self):
        for ladder in drawn(222, 80, "none", "slow"):
            for day in (0, 1, 2, 5, 40):
                days = orbit(ladder, day, 250)
                times = next(at for at in range(250) if days[at] == days[at + 1])
                self.answers(settles, (ladder, day), (times, 1, 0))

    def test_fast_ladders(self):
        seen = {"stays": 0, "never": 0, "comes to stay": 0}
        for ladder in drawn(223, 150, "fast"):
            for day in list(range(12)) + [20, 31]:
                days = orbit(ladder, day, 60)
                if days[-1] == days[-2]:
                    times = next(at for at in range(60) if days[at] == days[at + 1])
                    wanted = (times, 1, 0)
                    seen["comes to stay" if times else "stays"] += 1
                else:
                    self.assertGreater(days[-1] - days[-2], days[-2] - days[-3])
                    wanted = None
                    seen["never"] += 1
                self.answers(settles, (ladder, day), wanted)
        self.assertTrue(all(many > 10 for many in seen.values()), seen)

    def test_far_days_of_rising_ladders(self):
        for ladder in drawn(224, 80, "even"):
            start, length = len(ladder[0]), len(ladder[1])
            for day in range(start, start + length):
                if number_of(ladder, day) >= day:
                    days = orbit(ladder, day, 60 + 4 * length)
                    self.answers(settles, (ladder, day + length * HUGE), settled_of(days, length))

    def test_far_days_of_falling_ladders(self):
        for ladder in falling(225, 60):
            day, size, drop = lap_of(ladder)
            days = orbit(ladder, day, 400)
            times = next(at for at in range(400) if days[at] == days[at + 1])
            for far in (1, 2, 10 ** 29):
                self.answers(settles, (ladder, day + drop * far), (times + size * far, 1, 0))

    def test_far_days_of_slow_ladders(self):
        for ladder in drawn(226, 40, "none", "slow") + [([], [10 ** 9] * 60, 59), ([], list(range(60)), 59)]:
            for day in (0, HUGE, HUGE + 11):
                days = orbit(ladder, day, 9000)
                times = next(at for at in range(9000) if days[at] == days[at + 1])
                self.answers(settles, (ladder, day), (times, 1, 0))

    def test_far_days_of_fast_ladders(self):
        self.answers(settles, (([], [0], 2), HUGE), None)
        self.answers(settles, (([], [0] * 60, 61), 10 ** 31), None)
        self.answers(settles, (([0] * 60, [0], 600), 59), (1, 1, 0))
        self.answers(settles, (([0] * 60, [0], 600), 60), (1, 1, 0))
        self.answers(settles, (([0] * 60, [0], 600), 61), None)

    def test_by_hand(self):
        self.answers(settles, (SAME, HUGE), (0, 1, 0))
        self.answers(settles, (BACK, HUGE), (HUGE, 1, 0))
        self.answers(settles, (BACK, 0), (0, 1, 0))
        self.answers(settles, (([], [7], 1), 10 ** 31), (0, 1, 7))
        # 0, 1, 3, 5 and so on.
        self.answers(settles, (([], [1, 3], 2), 0), (1, 1, 2))
        # 0, 4, 7, 10 and so on.
        self.answers(settles, (([], [4, 4, 4], 3), 0), (1, 1, 3))
        # 0, 1, 3, 4, 6, 7 and so on.
        self.answers(settles, (([], [1, 3, 3], 3), 0), (0, 2, 3))
        # 0, 5, 12, 19 and so on.
        self.answers(settles, (([5, 9], [9], 1), 0), (1, 1, 7))
        # 1, 9, 16, 23 and so on.
        self.answers(settles, (([5, 9], [9], 1), 1), (1, 1, 7))

    def test_least_times_also_ahead_of_the_round(self):
        # What becomes of the day may come again before the ladder itself does.
        self.answers(settles, (([2, 2, 4, 4], [6, 6, 8], 3), 0), settled_of(
            orbit(([2, 2, 4, 4], [6, 6, 8], 3), 0, 60), 6))
        self.answers(settles, (([2] * 2 + [4] * 2, [6], 1), 0), (0, 1, 2))
        self.answers(settles, (([2] * 2 + [4] * 2, [6], 1), 1), (1, 1, 2))

    def test_sixty_places(self):
        chance = random.Random(227)
        for _ in range(12):
            start = chance.randint(40, 60)
            steps = [0] * 60
            for _ in range(60):
                steps[chance.randrange(60)] += 1
            low = start + chance.randint(-30, 40)
            ladder = (sorted(chance.randint(0, low) for _ in range(start)),
                      [low + sum(steps[:place]) for place in range(60)], 60)
            for day in (0, 30, 59, 77, 119):
                days = orbit(ladder, day, 400)
                self.answers(settles, (ladder, day), settled_of(days, 60))
                self.answers(after, (ladder, day, 399), days[399])


if __name__ == "__main__":
    unittest.main()
