"""Surgekept: a basin behind a storm gate."""
