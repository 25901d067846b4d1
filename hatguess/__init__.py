"""Hats of some colours, guessed by those who see others' hats."""
