"""What is so between each two states of one treaty with reservations."""
