"""Tasks in turn: what is to be done with many tasks on one machine."""
