"""Shapes made smaller: what is left of a shape when free simplices are pushed in, or leaning corners left out."""
