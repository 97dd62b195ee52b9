"""Beadhall: bodies. The calls stand in beadbodies.bodies."""
