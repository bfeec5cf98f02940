"""Claims held against by chance; the calls are in bychance.claims."""
