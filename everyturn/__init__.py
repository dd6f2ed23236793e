"""Everyturn: programs of threads, and all their turns."""
