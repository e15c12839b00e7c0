"""Linkages and the figures they take: barfigures.desk.answers is the way in."""
