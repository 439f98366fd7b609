"""Rules of days that never go back: ladders, and the sets of days beside them."""
