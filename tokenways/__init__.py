"""Tokens on places, moved by rules: checks of what is shown about them."""
