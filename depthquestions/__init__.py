"""A store that answers first-order questions of told depth, kept through edits."""
