package machine

import "netboot/api"

// wait: for an answer to something that is sent again and again.
type wait struct {
	sends int // how often it was sent
	until int // when the wait behind the last time is over
}

// waitMore: the wait behind one time more that the same is sent. It grows, and hangs on chance, lest machines that begin together all send together.
func (m *Machine) waitMore(w wait) wait {
	ticks := 2<<w.sends + int(m.draw%3) - 1
	return wait{sends: w.sends + 1, until: m.now + ticks}
}

// tickWait: when a wait is over, what it is behind is sent again, or was sent often enough.
func (m *Machine) tickWait(w wait, again func(*Machine)) {
	switch {
	case m.now < w.until:
	case w.sends == api.MaxSends:
		m.fail()
	default:
		again(m)
	}
}
