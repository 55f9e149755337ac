"""Boats to the shore: boats go to and fro between a ship and the shore."""
