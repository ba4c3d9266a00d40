"""The one function that is called from outside."""

from earthheaps.operations import create
from earthheaps.operations import perform
from earthheaps.reading import split_calls
from earthheaps.refusals import Refusal

CREATE = 0


def answers(calls):
    instance = None
    given = []
    for number, arguments in split_calls(calls):
        try:
            if number == CREATE:
                instance = create(arguments)
                answer = [0]
            else:
                answer = perform(instance, number, arguments)
        except Refusal as refusal:
            answer = [refusal.code]
        given.append(len(answer))
        given.extend(answer)
    return given
