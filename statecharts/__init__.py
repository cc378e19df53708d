"""Charts of states within states."""
