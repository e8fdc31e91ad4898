"""Pairs remembered: cards that lie face down, two of each picture."""
