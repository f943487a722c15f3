"""A query language, read strictly and said again: a text is a command, or the first place that is wrong is told."""
