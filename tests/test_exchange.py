"""Which pairs may be exchanged, of charts of any kind, against a search through all whole tellings."""

import itertools
import random
import unittest

from gapcalls.exchange import loose
from gapcalls.pairing import Chart, are_pairs_whole, are_short, pair_up, pair_up_from, turned


def some_chart(chance):
    """A chart of up to four asks and four jobs that hangs on the given chance alone."""
    asks = [("a", number) for number in range(chance.randint(1, 4))]
    jobs = [("b", number) for number in range(chance.randint(1, 4))]
    many, tied = chance.choice((0.3, 0.5, 0.8)), chance.choice((0, 0.3, 0.6, 1))
    jobs_of = {ask: [job for job in jobs if chance.random() < many] for ask in asks}
    tied_asks = {ask: True for ask in asks if chance.random() < tied}
    tied_jobs = {job: True for job in jobs if chance.random() < 0.5}
    return Chart(jobs_of, turned(jobs_of, jobs), tied_asks, tied_jobs)


def all_pairings(chart):
    """Every list of pairs in which each ask and each job stands at most once."""
    choices = [[None] + chart.jobs_of[ask] for ask in chart.jobs_of]
    for jobs in itertools.product(*choices):
        taken = [job for job in jobs if job is not None]
        if len(set(taken)) == len(taken):
            yield [(ask, job) for ask, job in zip(chart.jobs_of, jobs) if job is not None]


class Exchange(unittest.TestCase):
    def test_against_a_search(self):
        chance = random.Random(21)
        outcomes = []
        for _ in range(1500):
            chart = some_chart(chance)
            pairings = list(all_pairings(chart))
            whole = [pairs for pairs in pairings if are_pairs_whole(chart, pairs)]
            self.assert_paired_up(chart, pairings, whole, chance)
            if whole:
                chances = [(ask, job) for ask in chart.jobs_of for job in chart.jobs_of[ask]]
                often = {pair: sum(pair in pairs for pairs in whole) for pair in chances}
                wanted = [pair for pair in chances if 0 < often[pair] < len(whole)]
                outcomes.append((len(wanted) > 0, len(wanted) < len(chances)))
                for pairs in chance.sample(whole, min(3, len(whole))):
                    self.assertEqual(loose(chart, pairs, chances), wanted)
                    self.assertEqual(loose(chart, pairs, chances[::2]), [one for one in chances[::2] if one in wanted])
        for outcome in itertools.product((True, False), repeat=2):
            self.assertIn(outcome, outcomes)

    def assert_paired_up(self, chart, pairings, whole, chance):
        """That a whole telling, or what is short, is told, from whichever pairs on."""
        for told in (pair_up(chart), pair_up_from(chart, chance.choice(pairings))):
            if whole:
                self.assertEqual(told[0], "whole")
                self.assertIn(told[1], whole)
            else:
                self.assertEqual(told[0], "short")
                self.assertTrue(are_short(chart, *told[1:]))


if __name__ == "__main__":
    unittest.main()
