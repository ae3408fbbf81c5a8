package ring_test

import (
	"testing"

	"netboot/ring"
)

func wantNext(t *testing.T, r *ring.Ring[int], want int, found bool) {
	t.Helper()
	if n, ok := r.Next(); n != want || ok != found {
		t.Fatalf("P6: Next() = %d, %v, want %d, %v", n, ok, want, found)
	}
}

// Each room, each number that waits on the average: round and round.
func TestRingGoesRound(t *testing.T) {
	for room := 1; room <= 16; room++ {
		for wait := 1; wait <= room; wait++ {
			r := ring.New[int](room)
			for n := 1; n <= 100; n++ {
				if !r.Add(n) {
					t.Fatalf("P6: room for %d: no room for %d", room, n)
				}
				if n >= wait {
					wantNext(t, &r, n-wait+1, true)
				}
			}
		}
	}
}

func TestRingFullAndEmpty(t *testing.T) {
	r := ring.New[int](2)
	for range 5 {
		wantNext(t, &r, 0, false)
		for n, want := range []bool{true, true, false, false} {
			if ok := r.Add(n + 7); ok != want {
				t.Fatalf("P6: Add %d: %v", n, ok)
			}
		}
		wantNext(t, &r, 7, true)
		wantNext(t, &r, 8, true)
		wantNext(t, &r, 0, false)
	}
}

func TestRingWithoutRoom(t *testing.T) {
	var r ring.Ring[int]
	if r.Add(1) {
		t.Errorf("P6: a ring without room has room")
	}
	wantNext(t, &r, 0, false)
}
