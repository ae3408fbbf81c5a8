package machine

import (
	"testing"

	"netboot/api"
)

// Leases that are too long to be played through, and times far on.

// aged: a machine one tick ahead of an age of its lease.
func aged(t *testing.T, state api.Lease, tm terms, age uint32, granted int) *Machine {
	t.Helper()
	m := leased(t, state)
	m.lease.granted = granted
	m.lease.terms = tm
	m.now = granted + int(age) - 1
	m.lease.asked = m.now
	return m
}

func longest() terms {
	return terms{mask: everybody, images: server, ends: true, old: 0x7fffffff, veryOld: 0xdffffff9, over: 0xfffffffe}
}

func TestLongAges(t *testing.T) {
	for _, x := range []struct {
		state api.Lease
		age   uint32
		want  api.Lease
	}{
		{api.Bound, 1, api.Bound},
		{api.Bound, 0x7ffffffe, api.Bound}, {api.Bound, 0x7fffffff, api.Renewing}, {api.Bound, 0x80000000, api.Renewing},
		{api.Renewing, 0x80000000, api.Renewing}, {api.Renewing, 0xdffffff8, api.Renewing},
		{api.Renewing, 0xdffffff9, api.Rebinding}, {api.Bound, 0xdffffff9, api.Rebinding}, {api.Renewing, 0xdffffffa, api.Rebinding},
		{api.Rebinding, 0xdffffffa, api.Rebinding}, {api.Rebinding, 0xfffffffd, api.Rebinding},
		{api.Rebinding, 0xfffffffe, api.Off}, {api.Renewing, 0xfffffffe, api.Off}, {api.Bound, 0xfffffffe, api.Off},
	} {
		for _, granted := range []int{9, 0x7fffffff, 0xffffffff, 1 << 40} {
			m := aged(t, x.state, longest(), x.age, granted)
			m.Tick(1)
			if m.lease.state != x.want {
				t.Errorf("P10: in %d, %d ticks old, granted at %d: the lease is %d, want %d", x.state, x.age, granted, m.lease.state, x.want)
			}
			_, sent := m.Take()
			if sent != (x.want != x.state && x.want != api.Off) {
				t.Errorf("P10: in %d, %d ticks old: is it asked for: %v", x.state, x.age, sent)
			}
		}
	}
}

// A lease without an end, older than any time that may be told.
func TestAgeWithoutAnEnd(t *testing.T) {
	tm := longest()
	tm.ends, tm.old, tm.veryOld, tm.over = false, 1, 2, 0xffffffff
	for _, age := range []uint32{1, 2, 0x7fffffff, 0xfffffffe, 0xffffffff} {
		m := aged(t, api.Bound, tm, age, 1<<33)
		for range 3 {
			m.Tick(1)
		}
		if s, sent := m.Take(); sent || m.lease.state != api.Bound {
			t.Errorf("P10: a lease without an end: it is %d, and %x is sent", m.lease.state, s)
		}
	}
}

// Only from Bound on does a lease grow old.
func TestAgeOfOtherLeases(t *testing.T) {
	for _, state := range []api.Lease{api.Selecting, api.Requesting, api.Probing} {
		m := leased(t, state)
		m.lease.terms = terms{ends: true, over: 1}
		m.lease.granted = m.now
		m.lease.wait = wait{sends: 1, until: m.now + 2}
		m.Tick(1)
		if m.lease.state != state {
			t.Errorf("P10: in %d, when the time is over: the lease is %d", state, m.lease.state)
		}
	}
}
