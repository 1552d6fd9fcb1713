"""A show of cams on one shaft; camshow.show.answers is the way in."""
