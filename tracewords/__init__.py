"""Houses of square tables, told by the sums of their words."""
