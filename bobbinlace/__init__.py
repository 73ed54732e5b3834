"""Bobbin lace: workings that are one lace."""
