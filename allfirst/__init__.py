"""Allfirst: plans that wait for all or for the first."""
