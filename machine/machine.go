// Package machine: a machine that boots over a network: what it keeps, what it does with what comes, and when.
package machine

import (
	"strings"

	"netboot/api"
	"netboot/ring"
)

// Machine: of a configuration. (An empty one is of none: it has no room for frames.)
type Machine struct {
	cache
	config api.Config
	now    int
	draw   uint32            // the last one
	came   ring.Ring[string] // frames that were not looked at yet
	goes   ring.Ring[string] // frames that wait to be sent
	lost   int               // frames that had no room among them
	id     uint16            // of the next packet
	boots  int               // attempts that have failed
	lease  lease
	phase  api.Phase
	fetch  fetch
	image  []byte // as much of it as has come
}

// New: a machine at time 0.
func New(c api.Config) (*Machine, api.Errno) {
	if !mayBe(c) {
		return nil, api.ErrConfig
	}
	c.Name, c.Digest = strings.Clone(c.Name), strings.Clone(c.Digest)
	return &Machine{cache: cache{}, config: c, came: ring.New[string](c.Rx), goes: ring.New[string](c.Tx)}, api.OK
}

// Put: a frame comes to the card; false, if it has no room there.
func (m *Machine) Put(frame string) bool { return m.came.Add(strings.Clone(frame)) }

// Take: the first frame that waits to be sent; false, if none does.
func (m *Machine) Take() (string, bool) { return m.goes.Next() }

// Poll: up to n of the frames that have come are looked at; how many.
func (m *Machine) Poll(n int) int {
	polled := 0
	for polled < n {
		frame, found := m.came.Next()
		if !found {
			break
		}
		polled++
		if !m.ended() {
			m.frame(frame)
		}
	}
	return polled
}

// Tick: time goes on.
func (m *Machine) Tick(draw uint32) {
	m.now++
	m.draw = draw
	if !m.ended() {
		m.tickCache()
		m.tickLease()
		m.tickImage()
	}
}

// Look: what there is.
func (m *Machine) Look() api.Look {
	return api.Look{
		Now:     m.now,
		Lease:   m.lease.state,
		Phase:   m.phase,
		Address: m.address(),
		Boots:   m.boots,
		Bytes:   len(m.image),
		Lost:    m.lost,
		Cached:  len(m.cache),
	}
}

// Image: the image; false, if it is not there whole.
func (m *Machine) Image() (string, bool) {
	if m.phase != api.Done {
		return "", false
	}
	return string(m.image), true
}

// ended: nothing is done any more.
func (m *Machine) ended() bool { return m.phase == api.Done || m.phase == api.Failed }

// address: of the machine, which has none as long as the lease is not Bound.
func (m *Machine) address() api.IP {
	if m.lease.state < api.Bound {
		return 0
	}
	return m.lease.address
}

// drop: all of an attempt. Frames that wait go on waiting.
func (m *Machine) drop() {
	m.cache = cache{}
	m.lease = lease{}
	m.phase = api.Idle
	m.fetch = fetch{}
	m.image = nil
}

// fail: an attempt does.
func (m *Machine) fail() {
	m.drop()
	m.boots++
	if m.boots == api.MaxBoots {
		m.phase = api.Failed
	}
}
