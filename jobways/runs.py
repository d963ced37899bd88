"""The calls on one house: a pipeline, and perhaps a run of it."""

from jobways.chances import first_chance
from jobways.pipelines import Pipeline, label_of
from jobways.reading import drafted
from jobways.running import RUNS, whole_run
from jobways.writing import pipeline_text

FAULTY_TEXT = -1
NO_INSTANCE = -2
TOO_HIGH = -3
NO_RUN = -4
NOT_RUNNING = -5
TOO_MANY_ABOVE = -6
MOST_ABOVE = 5

READ = 0
WRITTEN = 1
LABEL = 2
NEEDS = 3
BEGIN = 4
ENDS = 5
STAND = 6
FORECAST = 7
# How many whole numbers stand behind a call's own number, by that number; read has a row instead.
NUMBERS_BEHIND = {1: 0, 2: 1, 3: 1, 4: 1, 5: 2, 6: 0, 7: 2, 8: 1}


class House:
    """What the calls of one list are about. Each method answers one call."""

    def __init__(self):
        self.pipeline = Pipeline([], [])
        self.run = None

    def has_instance(self, number):
        return number < len(self.pipeline.instances)

    def has_flags(self, flags):
        return flags >> len(self.pipeline.flags) == 0

    def read(self, text):
        draft = drafted(text)
        if draft.fault > 0:
            return [FAULTY_TEXT, draft.fault_line, draft.fault]
        self.pipeline = Pipeline(draft.jobs, draft.flags)
        self.run = None
        return [0, len(self.pipeline.jobs), len(self.pipeline.instances), len(self.pipeline.flags)]

    def written(self):
        return [0] + bytes_of(pipeline_text(self.pipeline))

    def label(self, number):
        if not self.has_instance(number):
            return [NO_INSTANCE]
        return [0] + bytes_of(label_of(self.pipeline.instances[number]))

    def needs(self, number):
        if not self.has_instance(number):
            return [NO_INSTANCE]
        return [0] + self.pipeline.needed[number]

    def begin(self, flags):
        if not self.has_flags(flags):
            return [TOO_HIGH]
        self.run = whole_run(self.pipeline, flags)
        return self.run.news(self.run.move_on())

    def ends(self, number, passed):
        if self.run is None:
            return [NO_RUN]
        if not self.has_instance(number):
            return [NO_INSTANCE]
        if self.run.stands[number] != RUNS:
            return [NOT_RUNNING]
        self.run.end(number, passed != 0)
        return self.run.news(self.run.move_on())

    def stand(self):
        if self.run is None:
            return [NO_RUN]
        return self.run.report()

    def forecast(self, flags, failures):
        if not self.has_flags(flags) or failures >> len(self.pipeline.instances) > 0:
            return [TOO_HIGH]
        run = whole_run(self.pipeline, flags)
        run.go_to_end(failures)
        return run.report()

    def ever(self, number):
        if not self.has_instance(number):
            return [NO_INSTANCE]
        if len(self.pipeline.above[number]) > MOST_ABOVE:
            return [TOO_MANY_ABOVE]
        chance = first_chance(self.pipeline, number)
        if chance is None:
            return [0]
        return [1] + list(chance)


def bytes_of(text):
    return [ord(sign) for sign in text]


def answer_to(house, call, numbers):
    """Answer a call that has whole numbers alone."""
    if call == WRITTEN:
        return house.written()
    if call == LABEL:
        return house.label(numbers[0])
    if call == NEEDS:
        return house.needs(numbers[0])
    if call == BEGIN:
        return house.begin(numbers[0])
    if call == ENDS:
        return house.ends(numbers[0], numbers[1])
    if call == STAND:
        return house.stand()
    if call == FORECAST:
        return house.forecast(numbers[0], numbers[1])
    return house.ever(numbers[0])


def answers(calls):
    """Answer a list of calls, laid out as one list of whole numbers, on a new house."""
    house = House()
    answered = []
    place = 0
    while place < len(calls):
        call = calls[place]
        start = place + 1
        if call == READ:
            start = place + 2
            place = start + calls[place + 1]
            answer = house.read(calls[start:place])
        else:
            place = start + NUMBERS_BEHIND[call]
            answer = answer_to(house, call, calls[start:place])
        answered.append(len(answer))
        answered.extend(answer)
    return answered
