"""Rimhouse: houses held against the best mix of others."""
