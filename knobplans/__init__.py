"""The cheapest options with which a plan can be kept."""
