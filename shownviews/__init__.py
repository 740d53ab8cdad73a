"""Shownviews: answers by rules over facts that many houses write, each with a paper."""
