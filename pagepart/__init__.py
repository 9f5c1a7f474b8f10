"""Pagepart: pages parted into boxes with texts in them."""
