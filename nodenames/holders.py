"""Lists of calls on one world, and the lists of their answers."""

from nodenames.world import World

BEGIN = 0
CLAIM = 1
FREE = 2
DIES = 3
PART = 4
MEET = 5
TELL = 6
TAKE = 7
KEEP = 8
LOSE = 9
TURNS = 10
WHO = 11
NAMES = 12
LOST = 13
CLAIMS = 14
AIR = 15

# How many numbers stand behind each call's own number.
NUMBERS_BEHIND = (1, 3, 3, 2, 2, 2, 2, 1, 1, 1, 1, 2, 1, 2, 1, 0)


def answer_of_nodes(world, call, numbers):
    if call == BEGIN:
        return world.begin(numbers[0])
    if call == CLAIM:
        return world.claim(numbers[0], numbers[1], numbers[2])
    if call == FREE:
        return world.free(numbers[0], numbers[1], numbers[2])
    if call == DIES:
        return world.dies(numbers[0], numbers[1])
    if call == PART:
        return world.part(numbers[0], numbers[1])
    if call == MEET:
        return world.meet(numbers[0], numbers[1])
    return world.tell(numbers[0], numbers[1])


def answer_of_letters(world, call, numbers):
    if call == TAKE:
        return world.take(numbers[0])
    if call == KEEP:
        return world.keep(numbers[0])
    if call == LOSE:
        return world.lose(numbers[0])
    return world.turns(numbers[0])


def answer_of_questions(world, call, numbers):
    if call == WHO:
        return world.who(numbers[0], numbers[1])
    if call == NAMES:
        return world.names(numbers[0])
    if call == LOST:
        return world.lost(numbers[0], numbers[1])
    if call == CLAIMS:
        return world.claims(numbers[0])
    return world.air()


def answer(world, call, numbers):
    if call <= TELL:
        return answer_of_nodes(world, call, numbers)
    if call <= TURNS:
        return answer_of_letters(world, call, numbers)
    return answer_of_questions(world, call, numbers)


def answers(calls):
    world = World()
    told = []
    place = 0
    while place < len(calls):
        call = calls[place]
        behind = place + 1 + NUMBERS_BEHIND[call]
        numbers = answer(world, call, calls[place + 1:behind])
        told.append(len(numbers))
        told.extend(numbers)
        place = behind
    return told
