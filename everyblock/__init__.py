"""Everyblock: sound that does not depend on how it is played."""
