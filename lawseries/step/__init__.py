"""Steps: the integers that tell a whole law, the residues that tell a law with a modulus."""
