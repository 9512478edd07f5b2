"""Scribeself: a system that makes compilers from descriptions, also itself."""
