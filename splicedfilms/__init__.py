"""Splicedfilms: films spliced by rules."""
