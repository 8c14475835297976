"""Times: arrivals, slacks, and netlists that respond late."""
