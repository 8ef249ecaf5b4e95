"""The errors of solids, features, histories, tools and cuts."""

from partloft.errors import LoftError


class InvalidSize(LoftError):
    """A room cannot have this size."""

    def __init__(self, size):
        super().__init__(f"invalid size of a room: {size}")
        self.size = size


class NoSuchGrain(LoftError):
    """The room does not have this grain."""

    def __init__(self, grain):
        super().__init__(f"no such grain: {grain}")
        self.grain = grain


class InvalidWay(LoftError):
    """A solid cannot be turned this way."""

    def __init__(self, way):
        super().__init__(f"invalid way: {way}")
        self.way = way


class InvalidAmount(LoftError):
    """A solid cannot be grown or shrunk by this amount."""

    def __init__(self, amount):
        super().__init__(f"invalid amount: {amount}")
        self.amount = amount


class NoGrains(LoftError):
    """A solid has no grains where some are needed."""


class InvalidRadius(LoftError):
    """A tool cannot have this radius."""

    def __init__(self, radius):
        super().__init__(f"invalid radius: {radius}")
        self.radius = radius


class NoSuchPlace(LoftError):
    """The room does not have this place."""

    def __init__(self, place):
        super().__init__(f"no such place: {place}")
        self.place = place


class NoStep(LoftError):
    """Two places are not neighbours."""

    def __init__(self, place, other):
        super().__init__(f"no step from {place} to {other}")
        self.place = place
        self.other = other


class NoSuchFeature(LoftError):
    """A history has no feature with this number."""

    def __init__(self, feature):
        super().__init__(f"no such feature: {feature}")
        self.feature = feature


class InvalidFeature(LoftError):
    """A feature cannot be made in this way."""

    def __init__(self, word):
        super().__init__(f"invalid in a feature: {word}")
        self.word = word


class InvalidField(LoftError):
    """A feature does not have this field, or cannot have it so."""

    def __init__(self, field):
        super().__init__(f"invalid field: {field}")
        self.field = field


class FeatureUsed(LoftError):
    """Another feature is made from this one."""

    def __init__(self, feature):
        super().__init__(f"another feature needs the feature {feature}")
        self.feature = feature


class InvalidOrder(LoftError):
    """A feature cannot stand at this place in the order."""

    def __init__(self, place):
        super().__init__(f"no feature can be put at {place}")
        self.place = place


class NoSuchSketch(LoftError):
    """A history has no sketch with this number."""

    def __init__(self, sketch):
        super().__init__(f"no such sketch: {sketch}")
        self.sketch = sketch
