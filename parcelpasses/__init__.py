"""Parcels that go from node to node by passes known beforehand."""
