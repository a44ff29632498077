"""Leastlays: whole answers from nought on, and the least ones of which all others are sums."""
