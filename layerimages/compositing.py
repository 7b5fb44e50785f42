"""Compositing: the layers of the root or of a group, laid onto a backdrop at one position."""

from layerimages.layers import AdjustmentLayer, Group, RasterLayer
from layerimages.pixels import adjusted, atop, mix, nothing, over, pixel_of_bytes
from layerimages.ratios import ratio


def weight_at(layer, place):
    """How much a layer counts at a place in its lists."""
    return ratio(layer.opacity * layer.mask[place], 255 * 255)


def is_pass_through(layer):
    """Whether a layer is a pass-through group."""
    return isinstance(layer, Group) and layer.pass_through == 1


def can_be_base(layer):
    """Whether layers may be clipped to this one: a raster layer or an isolated group."""
    return not isinstance(layer, AdjustmentLayer) and not is_pass_through(layer)


def with_clipped(layers):
    """The layers without a base, from the lowest on, each with a list of those clipped to it."""
    stacks = []
    base = None
    for layer in layers:
        # The lowest layer counts as not clipped.
        clipped = layer.clip == 1 and stacks != []
        if clipped and base is not None:
            base.append(layer)
        else:
            own = []
            stacks.append((layer, own))
            if not clipped:
                base = own if can_be_base(layer) else None
    return stacks


def own_pixel(document, layer, place):
    """The own pixel of a raster layer, or of a group composited onto an empty pixel."""
    if isinstance(layer, RasterLayer):
        return pixel_of_bytes(layer.pixels[place])
    return composite(document, layer.members, place, nothing())


def with_layer(document, layer, clipped, place, backdrop):
    """The backdrop with one layer, and those clipped to it, laid onto it."""
    weight = weight_at(layer, place)
    if isinstance(layer, AdjustmentLayer):
        return atop(layer.mode, weight, backdrop, adjusted(layer.kind, backdrop))
    if is_pass_through(layer):
        return mix(weight, backdrop, composite(document, layer.members, place, backdrop))
    own = own_pixel(document, layer, place)
    for upper in clipped:
        if upper.visible == 1:
            if isinstance(upper, AdjustmentLayer):
                laid = adjusted(upper.kind, own)
            else:
                laid = own_pixel(document, upper, place)
            own = atop(upper.mode, weight_at(upper, place), own, laid)
    return over(layer.mode, weight, backdrop, own)


def composite(document, members, place, backdrop):
    """The pixel at a place after the layers with these numbers are laid onto a backdrop."""
    result = backdrop
    for layer, clipped in with_clipped([document.layers[number] for number in members]):
        if layer.visible == 1:
            result = with_layer(document, layer, clipped, place, result)
    return result


def image_pixel(document, place):
    """The pixel of the whole image at a place."""
    return composite(document, document.root, place, nothing())
