"""A list that is kept so that its least entry is found soon."""


def push(heap, entry):
    heap.append(entry)
    at = len(heap) - 1
    while at > 0 and entry < heap[(at - 1) // 2]:
        heap[at] = heap[(at - 1) // 2]
        at = (at - 1) // 2
    heap[at] = entry


def lesser_child(heap, at):
    left = 2 * at + 1
    if left + 1 < len(heap) and heap[left + 1] < heap[left]:
        return left + 1
    return left


def sink(heap, entry):
    at = 0
    child = lesser_child(heap, at)
    while child < len(heap) and heap[child] < entry:
        heap[at] = heap[child]
        at = child
        child = lesser_child(heap, at)
    heap[at] = entry


def pop_least(heap):
    last = heap.pop()
    if len(heap) == 0:
        return last
    least = heap[0]
    sink(heap, last)
    return least
