"""Gates of several hands, built of boxes that are read and written."""
