"""Box assortment planner: which box sizes a packing station best keeps in stock."""
