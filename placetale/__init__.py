"""Placetale: tales of places, things and rules, played and looked through."""
