"""Games solved from their ends: endsolver.games.answers(calls) answers a list of calls."""
