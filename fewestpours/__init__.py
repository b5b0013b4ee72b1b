"""Fewestpours: records on slow disks, and the least moves of any program."""
