"""Jobs that hold locks: who runs when, and at what priority."""
