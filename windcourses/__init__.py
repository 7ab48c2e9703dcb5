"""Wind at places and moments from what stations saw, and the time that ways take in it."""
