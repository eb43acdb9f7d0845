"""Work that is given as it comes, and the share that is sure."""
