"""Ringbase: least rings of which all rings are sums."""
