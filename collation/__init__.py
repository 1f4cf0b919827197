"""Two copies of a work held against one another. The calls are in collation.desk."""
