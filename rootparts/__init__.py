"""Rootparts: a web dealt to roots in parts of every size."""
