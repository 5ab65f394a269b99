"""Codewalk: a compiler to bytecode, and the frame machine that runs it."""
