"""Leastmoved: buckets that move no more than they must."""
