"""Peatrick: amounts of peat in a village's own measure."""
