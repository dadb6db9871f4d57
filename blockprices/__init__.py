"""Ordered ticket pricing with a limited price step."""
