"""Jobs in turns on benches, and what shows that no plan is better."""
