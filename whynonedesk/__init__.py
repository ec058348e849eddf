"""Why there's none: what can't be had together, and what would have to be otherwise."""
