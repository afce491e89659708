"""A text of kinds and acts, and all facts and acts that come of it."""
