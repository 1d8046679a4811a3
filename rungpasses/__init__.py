"""Programs that go through the rungs of a relay scheme, one after another."""
