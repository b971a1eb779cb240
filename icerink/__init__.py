"""An ice rink: its ice and machines, its skates, and the sessions asked for."""
