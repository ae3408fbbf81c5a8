package wire

import "netboot/api"

// writer: the bytes that were written so far.
type writer struct{ out []byte }

func (w *writer) texts(ss ...string) {
	for _, s := range ss {
		w.out = append(w.out, s...)
	}
}

func (w *writer) bytes(bs ...uint8) { w.out = append(w.out, bs...) }

func (w *writer) words(ns ...uint16) {
	for _, n := range ns {
		w.out = append(w.out, byte(n>>8), byte(n))
	}
}

func (w *writer) longs(ns ...uint32) {
	for _, n := range ns {
		w.words(uint16(n>>16), uint16(n))
	}
}

func (w *writer) addresses(as ...api.IP) {
	for _, a := range as {
		w.longs(uint32(a))
	}
}

func (w *writer) cards(ms ...api.MAC) {
	for _, m := range ms {
		w.out = append(w.out, m[:]...)
	}
}

// fill: bytes 0, up to n bytes in all.
func (w *writer) fill(n int) {
	for len(w.out) < n {
		w.out = append(w.out, 0)
	}
}

// wordAt: n stands at a place that was written already, since it hangs on what stands behind that.
func (w *writer) wordAt(at int, n uint16) {
	w.out[at], w.out[at+1] = byte(n>>8), byte(n)
}

func (w *writer) text() string { return string(w.out) }
