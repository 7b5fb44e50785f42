"""Layer compositing: layered images, made and asked for by lists of calls."""
