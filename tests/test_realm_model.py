"""Realms held against a plain model, with any deeds, good ones and wrong ones (points 0.2 and 11 to 24)."""

import unittest

from deadhand.errors import LandError
from deadhand.realm import Realm
from drawing import ON_LANDS, PLAIN, Drawn
from realms import ModelRealm, whole_realm


class ModelTest(unittest.TestCase):

    def compare(self, realm, model):
        told = whole_realm(realm)
        self.assertEqual((realm.world.year, told[1:]), (model.year, model.told()))

    def turn(self, realm, model, deed):
        """Do a deed in both; whether it was done is told."""
        kind, *things = deed
        faults = model.faults(kind, *things)
        ahead = whole_realm(realm) if faults else None
        try:
            answer = getattr(realm, kind)(*things)
        except LandError as refusal:
            self.assertIn(type(refusal), faults, deed)
            self.assertEqual(whole_realm(realm), ahead)
            return False
        self.assertEqual(faults, set(), deed)
        more = [realm.world] if kind == "gift" else []
        self.assertEqual(answer, getattr(model, kind)(*things, *more), deed)
        return True

    def test_any_deeds(self):
        done, refused = {}, {}
        for seed in range(150):
            term = seed % 4 * 7
            realm, model = Realm(1800, term), ModelRealm(1800, term)
            drawn = Drawn(seed, model)
            for deed in (("arrive", "ann", 20), ("land", "hill", "ann", 7)):
                self.assertTrue(self.turn(realm, model, deed))
            for turn in range(70):
                deed = drawn.deed()
                if deed[0] == "death" and drawn.chance.random() < 0.4:
                    continue
                counted = done if self.turn(realm, model, deed) else refused
                counted[deed[0]] = counted.get(deed[0], 0) + 1
                self.compare(realm, model)
        self.assertGreater(min(done.get(kind, 0) for kind in set(PLAIN + ON_LANDS)), 50, done)
        self.assertGreater(min(refused.get(kind, 0) for kind in ("gift", "sell", "drop", "land")), 100, refused)


if __name__ == "__main__":
    unittest.main()
