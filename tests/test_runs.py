"""The whole program: points [46] to [49], and with them [1] and [2]."""

import unittest

from runs import Run


class RunsTest(unittest.TestCase):
    """Runs by chance, with as many liars as may be, words lost, doubled and mixed up, and losses of power."""

    def run_all(self, seeds, turns, least, **settings):
        """Makes runs and looks at each; least tells what all of them together have to have come to."""
        came = {"commits": 0, "refused": 0, "told": 0, "answers": 0, "states": 0, "losses": 0, "owners": 0, "rounds": 0}
        for seed in seeds:
            with self.subTest(seed=seed, **settings):
                run = Run(seed, **settings).go(turns)
                order = run.check(self)
                records = [record for shelf in run.shelves.values() for record in shelf.records()]
                came["commits"] += len(order)
                came["refused"] += len([row for row in order if row[1][0] == "refused"])
                came["told"] += len(run.told())
                came["answers"] += sum(len(client.answers) for client in run.clients.values())
                came["states"] += [record[0] for record in records].count("state")
                came["losses"] += sum(shelf.losses() for shelf in run.shelves.values())
                came["owners"] += len({header[5] for header in run.headers.values()}) - 1
                came["rounds"] += len([record for record in records if record[0] == "own" and record[1][2] > 0])
        for name, many in least.items():
            self.assertGreaterEqual(came[name], many, came)

    def test_four_places_and_a_liar(self):
        least = {
            "commits": 50, "refused": 2, "told": 40, "answers": 150, "states": 100, "losses": 100, "owners": 1, "rounds": 100,
        }
        self.run_all(range(10), 2200, least, spare=(501, 502))

    def test_seven_places_and_two_liars(self):
        least = {"commits": 3, "told": 2, "answers": 15, "states": 10, "losses": 40, "rounds": 60}
        self.run_all(range(100, 104), 3000, least, many=7, liars=2, spare=(501, 502))

    def test_ten_places_and_three_liars(self):
        luck = {"failure": 0.001, "drop": 0.01, "tick": 0.01, "lie": 0.02}
        self.run_all(range(200, 203), 3000, {"commits": 3, "answers": 10}, many=10, liars=3, luck=luck)

    def test_a_town_without_liars(self):
        least = {"commits": 60, "told": 50, "answers": 150}
        self.run_all(range(300, 304), 2500, least, liars=0, luck={"lie": 0}, spare=(501,))

    def test_a_town_in_which_most_words_are_lost(self):
        self.run_all(range(400, 404), 2500, {"losses": 100, "answers": 10}, luck={"drop": 0.5, "failure": 0.03, "tick": 0.1})


class CalmTest(unittest.TestCase):
    """Calm turns behind a run by chance."""

    def calm_all(self, seeds, turns, least, lies=0, **settings):
        counts = []
        for seed in seeds:
            with self.subTest(seed=seed, **settings):
                run = Run(seed, **settings).go(turns)
                if seed % 3 == 0:
                    run.waiting = []
                found = run.calm_down(lies)
                if found is not None:
                    self.assertLessEqual(found[0], found[1])
                    counts.append(found[0])
                run.check(self)
        self.assertGreaterEqual(len(counts), least)

    def test_four_places(self):
        self.calm_all(range(60), 300, 20)

    def test_liars_go_on(self):
        self.calm_all(range(100, 160), 300, 20, lies=2)

    def test_owners_were_replaced(self):
        self.calm_all(range(200, 224), 700, 4, lies=1, spare=(501, 502))

    def test_seven_places(self):
        self.calm_all(range(300, 315), 300, 4, many=7, liars=2)

    def test_ten_places(self):
        self.calm_all(range(400, 403), 200, 1, many=10, liars=3, lies=1)

    def test_rounds_without_a_decision_before(self):
        """Many ticks bring the houses into different rounds and steps, with locks of several of them."""
        self.calm_all(range(500, 540), 400, 12, luck={"tick": 0.3, "drop": 0.3})


if __name__ == "__main__":
    unittest.main()
