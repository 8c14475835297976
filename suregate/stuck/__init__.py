"""Tests for stuck literals, and circuits without literals that may as well be constant."""
