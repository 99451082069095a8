"""Shifttape: texts with two sets of signs, and shift codes."""
