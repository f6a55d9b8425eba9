"""Sheets of wood that are sawn in a packet."""
