package machine

import "netboot/api"

const endless = 0xffffffff // the time of a lease that never ends

// terms: with which a lease is granted. Its times are ticks since then.
type terms struct {
	mask    api.IP
	router  api.IP // 0: there is none
	images  api.IP // where they are
	ends    bool
	old     uint32
	veryOld uint32
	over    uint32
}

// terms: of an ack; false, if it has no time.
func (r reply) terms() (terms, bool) {
	time, four := r.options().Long(optionTime)
	if !four || time == 0 {
		return terms{}, false
	}
	t := terms{
		mask:   r.mask(),
		router: r.options().FirstAddress(optionRouter),
		images: r.images(),
		ends:   time != endless,
		over:   time,
	}
	t.old, t.veryOld = r.ages(time)
	return t, true
}

// mask: if none is told, nobody else is in the machine's net.
func (r reply) mask() api.IP {
	mask, told := r.options().Address(optionMask)
	if !told {
		return everybody
	}
	return mask
}

func (r reply) images() api.IP {
	if r.message.Next != 0 {
		return r.message.Next
	}
	return r.server
}

// ages: at which a lease of a time is old and very old: as told, if that is in order.
func (r reply) ages(time uint32) (uint32, uint32) {
	old, first := r.options().Long(optionOld)
	veryOld, second := r.options().Long(optionVeryOld)
	if first && second && old < veryOld && veryOld < time {
		return old, veryOld
	}
	return time / 2, time / 8 * 7
}
