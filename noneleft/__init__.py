"""When greedy batches never leave anything behind."""
