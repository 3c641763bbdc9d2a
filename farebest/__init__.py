"""farebest: what a card's day costs, never dearer than the cheapest tickets."""
