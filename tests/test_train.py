import unittest

from coastersafe.errors import InvalidTrain
from coastersafe.train import Train

GOOD = {"length": 3, "friction": (100, 300), "brake": (200000, 250000), "lift": 40000, "drive": 10000}


def train_with(**changed):
    bounds = dict(GOOD, **changed)
    return Train(bounds["length"], bounds["friction"], bounds["brake"], bounds["lift"], bounds["drive"])


class TrainTest(unittest.TestCase):
    def assert_accepted(self, name, values):
        for value in values:
            train = train_with(**{name: value})
            for field in GOOD:
                expected = value if field == name else GOOD[field]
                self.assertEqual(getattr(train, field), expected, (field, value))

    def assert_refused(self, name, values):
        for value in values:
            with self.assertRaises(InvalidTrain, msg=(name, value)):
                train_with(**{name: value})

    def test_fields(self):
        train = Train(3, (100, 300), (200000, 250000), 40000, 10000)
        fields = [train.length, train.friction, train.brake, train.lift, train.drive]
        self.assertEqual(fields, [3, (100, 300), (200000, 250000), 40000, 10000])

    def test_length(self):
        self.assert_accepted("length", [1, 2, 99, 100])
        self.assert_refused("length", [0, -1, 101, 10 ** 30])

    def test_friction(self):
        self.assert_accepted("friction", [(0, 0), (0, 100000), (100000, 100000), (5, 5)])
        self.assert_refused("friction", [(-1, 5), (-2, -1), (0, 100001), (100001, 100001), (6, 5), (1, 0)])

    def test_brake(self):
        self.assert_accepted("brake", [(1, 1), (1, 1000000), (1000000, 1000000), (7, 8)])
        self.assert_refused("brake", [(0, 5), (0, 0), (-1, 5), (1, 1000001), (1000001, 1000001), (8, 7)])

    def test_energies(self):
        for name in ("lift", "drive"):
            self.assert_accepted(name, [1, 2, 9999999, 10000000])
            self.assert_refused(name, [0, -1, 10000001, 10 ** 30])


if __name__ == "__main__":
    unittest.main()
