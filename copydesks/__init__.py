"""Copydesks: desks with copies of the same pages, and the hall that lends them."""
