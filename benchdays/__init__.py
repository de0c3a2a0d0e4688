"""Benchdays: works on one bench, what their ends cost, and papers for what is told to be best."""
