"""The lake and the seasons: what is sure whatever weather comes."""
