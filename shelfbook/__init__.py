"""Shelfbook: a shop's shelf with orders, part deliveries, refusals and returns."""
