"""Sparesum: records on disks that are lost, with torn writes, and the fewest blocks in all."""
