"""Wishes moment by moment, what point 43 stands on: against the same wishes on whole catches."""

import random
import unittest

from tests.helper import catch_of, some_levels
from tests.slow import truths
from tests.wishing import some_wish
from wirelooker.courses import Course
from wirelooker.wishes import parts_of


def has_read(wish):
    return "read" in [part[0] for part in parts_of(wish)]


class TestCourse(unittest.TestCase):
    def test_moment_by_moment(self):
        chance = random.Random(430)
        for _ in range(600):
            wishes = [some_wish(chance, "abc", chance.choice((0, 1, 2, 3)), chance.choice((2, 5))) for _ in range(chance.choice((1, 2)))]
            if any(has_read(wish) for wish in wishes):
                continue
            levels = {name: some_levels(chance, 25, chance.choice((1, 3, 8))) for name in "abc"}
            so = [truths(catch_of(levels), wish) for wish in wishes]
            course = Course(wishes)
            kept = course.begun()
            for t in range(25):
                told, after = course.gone_on(kept, {name: levels[name][t] for name in "abc"})
                self.assertEqual(told, [row[t] for row in so], wishes)
                # What was kept stays, and told again it goes on the same way.
                self.assertEqual(course.gone_on(kept, {name: levels[name][t] for name in "abc"}), (told, after))
                kept = after

    def test_few_states(self):
        for wish, most in ((("nth", 2, ("high", "a")), 5), (("held", 2, ("high", "a")), 3), (("within", 2, ("high", "a")), 3),
                           (("pulse", "a", 1, 1, 2), 4), (("since", ("high", "a"), ("low", "a")), 2), (("rise", "a"), 2)):
            course = Course([wish])
            states = [course.begun()]
            for state in states:
                for level in (0, 1):
                    _, after = course.gone_on(state, {"a": level})
                    if after not in states:
                        states.append(after)
            self.assertLessEqual(len(states), most, wish)


if __name__ == "__main__":
    unittest.main()
