"""Heapsdouble: from one heap to another as many as that one has."""
