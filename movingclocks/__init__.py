"""Moving clocks: events, factors and ways, told exactly."""
