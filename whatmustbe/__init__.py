"""What must be so: what is certain of a graph that is told only in part."""
