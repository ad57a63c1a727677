"""Scripts that wait: many small scripts that go on at once, in the same order on each machine."""
