"""Freshreach: pages asked over a net, whole and fresh or told broken."""
