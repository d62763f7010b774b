"""Samesamples: a studio's sound engine."""
