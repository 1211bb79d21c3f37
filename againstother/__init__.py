"""Against somebody: two act in turn on the same facts, and each wants something else."""
