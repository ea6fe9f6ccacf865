"""Shelfbots: two robots that move boxes on one shelf."""
