"""Outgrow: plans of work counted exactly, and which outgrows which."""
