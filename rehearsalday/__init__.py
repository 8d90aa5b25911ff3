"""Rehearsals: a day of pieces and players, and the order in which it costs least."""
