package timers

import (
	"cmp"
	"container/heap"
	"maps"
	"slices"

	"concierge/api"
)

// timer is a key with its tick.
type timer api.Due

// compare is below 0, if t stands ahead of other, and above 0, if behind: by ticks, and by keys, where these are alike.
func (t timer) compare(other timer) int {
	return cmp.Or(cmp.Compare(t.Tick, other.Tick), cmp.Compare(t.Key, other.Key))
}

// queue is timers in a heap of package container/heap: the first one, in order, stands first. Each key has its place in the row.
type queue struct {
	row    []timer
	order  func(a, b timer) int
	places map[int]int
}

// newQueue is one without timers.
func newQueue() *queue {
	return &queue{order: timer.compare, places: map[int]int{}}
}

// set puts the timer in, in place of another one of its key.
func (q *queue) set(d timer) {
	if i, there := q.places[d.Key]; there {
		q.row[i] = d
		heap.Fix(q, i)
		return
	}
	q.places[d.Key] = len(q.row)
	heap.Push(q, d)
}

// remove takes away the timer at the place, which there is.
func (q *queue) remove(i int) {
	key := q.row[i].Key
	heap.Remove(q, i)
	// Not ahead of it: the heap brings the timer to the end by Swap, which tells its place anew.
	delete(q.places, key)
}

// fork is another one with the same timers, on memory of its own.
func (q *queue) fork() *queue {
	return &queue{row: slices.Clone(q.row), order: q.order, places: maps.Clone(q.places)}
}

// Len is how many timers there are.
func (q *queue) Len() int {
	return len(q.row)
}

// Less tells whether the timer at i stands ahead of that at j.
func (q *queue) Less(i, j int) bool {
	return q.order(q.row[i], q.row[j]) < 0
}

// Swap changes the places of two timers.
func (q *queue) Swap(i, j int) {
	q.row[i], q.row[j] = q.row[j], q.row[i]
	q.places[q.row[i].Key] = i
	q.places[q.row[j].Key] = j
}

// Push puts a timer, whose place is known, at the end: the heap calls it.
func (q *queue) Push(x any) {
	q.row = append(q.row, x.(timer))
}

// Pop takes the timer at the end away: the heap calls it.
func (q *queue) Pop() any {
	last := len(q.row) - 1
	d := q.row[last]
	q.row = q.row[:last]
	return d
}
