"""Graphs that spread: spreadwalks.graph.answers tells what calls on a graph answer."""
