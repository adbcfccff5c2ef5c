"""Cutrelays: message bodies that are held, cut and sent on by chains of relays."""
