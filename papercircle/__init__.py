"""Papercircle: folders of weeklies that go from house to house, cheaper with each week."""
