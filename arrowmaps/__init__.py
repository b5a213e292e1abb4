"""Maps of one graph into another that keep arrows; the calls stand in arrowmaps.graphs."""
