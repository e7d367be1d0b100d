"""Room shared by kinds, prices by quantity."""
