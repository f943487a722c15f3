"""A query language, read strictly: a text is a command's tree, or the first place that is wrong is told."""
