"""Netkeep: a graph database of stores that are joined by named ties."""
