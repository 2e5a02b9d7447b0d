"""Ways by expressions: a graph, a question to it, and who is come to."""
