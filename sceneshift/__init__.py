"""Scenes changed: what is carried off where, from the first scene to the last."""
