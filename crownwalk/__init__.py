"""Crownwalk: two hands lead one walker for ever, and the crowns that come again and again tell who has won."""
