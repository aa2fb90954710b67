"""Rules about whole lots of runs, and the few runs that break them."""
