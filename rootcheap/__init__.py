"""Rootcheap: the cheapest roads that lead from one place to every other."""
