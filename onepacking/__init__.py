"""Squeeze: bytes written smaller, without any loss, in one told way alone."""
