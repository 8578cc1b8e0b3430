"""Stiffbars: frames of joints and bars."""
