"""Plandays: plans of tasks on any number of days."""
