"""Cyclic scheduling of a single hoist that carries lots through a line of pits."""
