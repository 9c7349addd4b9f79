"""Winds by heights: where a balloon lands that rises and sinks into winds told hour by hour."""
