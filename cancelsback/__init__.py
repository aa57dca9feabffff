"""Cancelsback: what can come of told versions by merges."""
