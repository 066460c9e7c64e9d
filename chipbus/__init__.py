"""Chipbus: chips behind addresses that are taken apart by bits."""
