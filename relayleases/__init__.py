"""Clients, relays and servers: addresses asked for over a tree of relays."""
