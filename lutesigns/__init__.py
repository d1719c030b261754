"""Lute music in French, Italian and German tablature; the calls are in lutesigns.tabs."""
