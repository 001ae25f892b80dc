"""Docketloom: a court's docket."""
