"""Sameround: programs of rounds over letters that come late."""
