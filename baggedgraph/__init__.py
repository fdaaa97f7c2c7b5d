"""Hard questions on graphs that are nearly trees, answered with the help of bags."""
