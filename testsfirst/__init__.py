"""Which test first: the order of tests that sees a failure soonest on the average."""
