"""Outweave: output of several hands, woven together."""
