"""Newesttells: streams of deeds in which only what tells something new counts."""
