"""The errors: each keeps the very objects that it was made with."""


class PartsError(ValueError):
    """What all errors of the package are."""


class BadDeed(PartsError):
    """What is no deed."""

    def __init__(self, thing):
        self.thing = thing


class BadForest(PartsError):
    """What is no forest."""

    def __init__(self, thing):
        self.thing = thing


class BadForm(PartsError):
    """What no text of this form can be written of."""

    def __init__(self, thing):
        self.thing = thing


class BadHeight(PartsError):
    """What is no integer."""

    def __init__(self, thing):
        self.thing = thing


class BadHollow(PartsError):
    """What is no hollow of the web."""

    def __init__(self, thing):
        self.thing = thing


class BadKind(PartsError):
    """What is no kind of number."""

    def __init__(self, thing):
        self.thing = thing


class BadLosses(PartsError):
    """Rows that lose too little or have too much border."""

    def __init__(self, fault):
        self.fault = fault


class BadLot(PartsError):
    """The first thing of a lot that is no place, or stood before."""

    def __init__(self, index):
        self.index = index


class BadLots(PartsError):
    """The first thing of some lots that cannot be one of them."""

    def __init__(self, index):
        self.index = index


class BadName(PartsError):
    """What is no name that can be taken here."""

    def __init__(self, thing):
        self.thing = thing


class BadNest(PartsError):
    """What is no nest."""

    def __init__(self, thing):
        self.thing = thing


class BadNumber(PartsError):
    """What is no number within bounds."""

    def __init__(self, thing):
        self.thing = thing


class BadOrder(PartsError):
    """The first thing of an order that is no hollow, or stood before."""

    def __init__(self, index):
        self.index = index


class BadParting(PartsError):
    """What is no parting."""

    def __init__(self, thing):
        self.thing = thing


class BadPicture(PartsError):
    """What is no picture."""

    def __init__(self, thing):
        self.thing = thing


class BadPlaces(PartsError):
    """The first of a web's places that is no name, or stood before."""

    def __init__(self, index):
        self.index = index


class BadPrice(PartsError):
    """What is no price."""

    def __init__(self, thing):
        self.thing = thing


class BadPriced(PartsError):
    """What is no priced nest."""

    def __init__(self, thing):
        self.thing = thing


class BadQuestion(PartsError):
    """What is no question now."""

    def __init__(self, thing):
        self.thing = thing


class BadRoots(PartsError):
    """The first thing of some roots that cannot be one of them."""

    def __init__(self, index):
        self.index = index


class BadRows(PartsError):
    """The first row of a priced nest that cannot be one of it."""

    def __init__(self, index):
        self.index = index


class BadSession(PartsError):
    """What is no session."""

    def __init__(self, thing):
        self.thing = thing


class BadSharing(PartsError):
    """What is no sharing of the web."""

    def __init__(self, thing):
        self.thing = thing


class BadTable(PartsError):
    """What is no table of the web."""

    def __init__(self, thing):
        self.thing = thing


class BadText(PartsError):
    """The first wrong sign of a text."""

    def __init__(self, line, sign):
        self.line = line
        self.sign = sign


class BadTies(PartsError):
    """The first of a web's ties that cannot be one of it."""

    def __init__(self, index):
        self.index = index


class BadTold(PartsError):
    """The first told thing that is no price with a parting."""

    def __init__(self, index):
        self.index = index


class BadWeb(PartsError):
    """What is no web."""

    def __init__(self, thing):
        self.thing = thing


class InUse(PartsError):
    """A watched question that a deed would make none."""

    def __init__(self, question):
        self.question = question


class IsThere(PartsError):
    """A lot that is in the coarsest best parting."""

    def __init__(self, lot):
        self.lot = lot


class IsWatched(PartsError):
    """A question that is watched already."""

    def __init__(self, question):
        self.question = question


class NoCount(PartsError):
    """What is no number of deeds that were done."""

    def __init__(self, thing):
        self.thing = thing


class NoLot(PartsError):
    """What is no lot of the priced nest."""

    def __init__(self, thing):
        self.thing = thing


class NoParts(PartsError):
    """A lot that is one place alone."""

    def __init__(self, lot):
        self.lot = lot


class NoPlace(PartsError):
    """What is none of the places."""

    def __init__(self, thing):
        self.thing = thing


class NoRoot(PartsError):
    """The first place of whose part there is no root."""

    def __init__(self, place):
        self.place = place


class NoTie(PartsError):
    """Two places that are not tied."""

    def __init__(self, one, other):
        self.one = one
        self.other = other


class NotThere(PartsError):
    """A lot that is not in the coarsest best parting."""

    def __init__(self, lot):
        self.lot = lot


class NotWatched(PartsError):
    """A question that is not watched."""

    def __init__(self, question):
        self.question = question


class OtherPlaces(PartsError):
    """A priced nest over other places than the web's."""


class SamePlace(PartsError):
    """One place where two are asked."""

    def __init__(self, thing):
        self.thing = thing


class SavesNothing(PartsError):
    """A lot that has no less border than its parts."""

    def __init__(self, lot):
        self.lot = lot


class WouldChange(PartsError):
    """A held question that a deed would answer otherwise."""

    def __init__(self, question, why):
        self.question = question
        self.why = why
