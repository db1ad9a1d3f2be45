"""Answers kept up to date: see keptanswers.desk."""
