"""Narcissus: programs that read programs."""
