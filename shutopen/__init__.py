"""Shutopen tells what rests in a vessel whose wares are shut in or open."""
