"""Numbers of up to 4096 bits by an odd modulus; oddmodulus.registers.answers is the way in."""
