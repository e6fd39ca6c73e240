"""Ships told by radio. What is called stands in shipradio.ships."""
