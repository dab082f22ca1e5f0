"""Long numbers of limbs, packed decimals and tables, exact at any length."""
