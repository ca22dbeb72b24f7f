"""Sawsign: how a number shuffles the rests of another, and the sums of teeth that go with it."""
