"""Flowstack: streams in layers that lose nothing."""
