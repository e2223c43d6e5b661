"""Gatesread: from a netlist to masks, and back from the masks to the netlist."""
