"""Contractbook: what contracts owe in every future."""
