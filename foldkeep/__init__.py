"""Foldkeep: one folder on several devices, under programs that know nothing of it."""
