"""Stadium wave simulator: an excitable cellular automaton on a ring."""
