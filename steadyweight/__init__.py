"""Weight from readings: the calls stand in steadyweight.pan."""
