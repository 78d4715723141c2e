"""Fivehues: flat webs whose places are given hues."""
