"""Social choice functions for a few agents and alternatives."""
