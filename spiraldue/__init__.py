"""spiraldue: losses that go round among insurers of one another."""
