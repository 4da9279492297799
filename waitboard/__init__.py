"""How long to wait till a net of gates is surely at rest: see waitboard.board.answers."""
