"""Measurehall: tasks, machines run by seeds, told runs and ranks."""
