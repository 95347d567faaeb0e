"""Nightsheld: a guest house, its nights, rooms, keys and bills."""
