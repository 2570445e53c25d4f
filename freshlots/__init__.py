"""Issuing lots of a perishable product, week by week."""
