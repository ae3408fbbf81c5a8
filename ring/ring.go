// Package ring: things that wait in a row where only so many have room.
package ring

// Ring: what came first goes first; the slots are used round and round.
type Ring[T any] struct {
	slots []T
	first int // the slot of the one that goes next
	count int // how many wait
}

// New: a ring with room for so many.
func New[T any](room int) Ring[T] { return Ring[T]{slots: make([]T, room)} }

// Add: t waits behind all others; false, if there is no room.
func (r *Ring[T]) Add(t T) bool {
	if r.count == len(r.slots) {
		return false
	}
	r.slots[(r.first+r.count)%len(r.slots)] = t
	r.count++
	return true
}

// Next: the one that came first, which waits no more; false, if none waits.
func (r *Ring[T]) Next() (T, bool) {
	var none T
	if r.count == 0 {
		return none, false
	}
	t := r.slots[r.first]
	r.slots[r.first] = none // the slot would keep its memory till it is used again
	r.first = (r.first + 1) % len(r.slots)
	r.count--
	return t, true
}
