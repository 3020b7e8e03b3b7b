"""turnhall: a bench of turns. The calls go in through benchturns.bench.answers."""
