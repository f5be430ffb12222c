"""Shapeguess: an engine that guesses, and the plain run that it must equal."""
