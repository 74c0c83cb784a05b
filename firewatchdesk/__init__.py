"""Which engine goes to which fire, so that the last one is there the soonest."""
