"""Partbook: tables over the numbers from one on, and sums over all parts of a number."""
