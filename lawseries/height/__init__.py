"""Heights of laws modulo a prime."""
