"""An event of pairs at cards: see pairsevent.desk.answers."""
