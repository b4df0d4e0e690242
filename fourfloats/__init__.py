"""Programs over vectors of four floats, run for many points."""
