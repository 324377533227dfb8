"""The forms that there are, by the words and slots that have them, and the other way round."""


class FormTable:
    """A place is a word's number and a slot. No letters at all stand for: no form."""

    def __init__(self):
        # By place; there is no entry where there is no form.
        self.form_at = {}
        # By form, a dict with the places that have it as keys; there is no entry without a place.
        self.places_with = {}

    def form_of(self, place):
        return self.form_at.get(place, ())

    def give_form(self, place, form):
        """The place has that form now, and no longer the one it had."""
        self.take_form(place)
        if len(form) == 0:
            return
        self.form_at[place] = form
        if form not in self.places_with:
            self.places_with[form] = {}
        self.places_with[form][place] = True

    def take_form(self, place):
        if place not in self.form_at:
            return
        form = self.form_at.pop(place)
        self.places_with[form].pop(place)
        if len(self.places_with[form]) == 0:
            self.places_with.pop(form)

    def is_known(self, form):
        return form in self.places_with

    def places_of(self, form):
        """Word by word, slot by slot."""
        return sorted(self.places_with.get(form, {}))
