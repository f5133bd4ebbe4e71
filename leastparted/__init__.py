"""Parted at least cost: groups of records that go against the fewest votes."""
