"""Signmill: words ground by rules, and the rules made complete."""
