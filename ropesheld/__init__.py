"""Ropesheld: ropes among posts, what moving leaves as it is, and what pulled posts let fall."""
