"""Finding proofs of a sequent: its matchings, its nets, and where a net stands among them."""
