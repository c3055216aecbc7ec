"""Sweptfree: ways that sweep nothing, or a paper that there are none."""
