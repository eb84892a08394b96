"""Rules that turn texts, the first that fits, at the first place."""
