// Package wire: the formats of what goes over the network, read and written.
package wire

import (
	"strings"

	"netboot/api"
)

// reader: the bytes that are still to be read. Its methods leave by a panic with an api.Errno, so that what is read is told one behind the other, without a look at an error after each; read catches it.
type reader struct{ rest string }

// read: what how makes of s, or the error that it left with. (A panic with anything else would be a fault of the program, not of s, and is not told as one of s.)
func read[T any](s string, how func(*reader) T) (t T, e api.Errno) {
	defer func() {
		if left := recover(); left != nil {
			e = left.(api.Errno)
		}
	}()
	return how(&reader{s}), api.OK
}

// get: what how reads; it leaves with e if that may not be.
func get[T any](r *reader, how func(*reader) T, may func(T) bool, e api.Errno) T {
	t := how(r)
	must(may(t), e)
	return t
}

// must: it leaves with e if what must hold does not.
func must(holds bool, e api.Errno) {
	if !holds {
		panic(e)
	}
}

// need: at least n bytes are still to be read. A format asks for all its bytes at first where too few of them are told ahead of wrong ones.
func (r *reader) need(n int) { must(len(r.rest) >= n, api.ErrShort) }

func (r *reader) take(n int) string {
	r.need(n)
	s := r.rest[:n]
	r.rest = r.rest[n:]
	return s
}

// text: n bytes, in memory of their own: an answer shares none with what was handed in.
func (r *reader) text(n int) string { return strings.Clone(r.take(n)) }

// remaining: all that is still to be read.
func (r *reader) remaining() string { return r.text(len(r.rest)) }

func (r *reader) byte() uint8 { return r.take(1)[0] }

func (r *reader) word() uint16 {
	b := r.take(2)
	return uint16(b[0])<<8 | uint16(b[1])
}

// length: a length in a head, which counts the head, too, and no more bytes than there are.
func (r *reader) length(head, all int) int {
	n := int(r.word())
	must(n >= head, api.ErrForm)
	must(n <= all, api.ErrShort)
	return n
}

func (r *reader) long() uint32 {
	high := r.word()
	low := r.word()
	return uint32(high)<<16 | uint32(low)
}

func (r *reader) address() api.IP { return api.IP(r.long()) }

func (r *reader) card() api.MAC {
	var m api.MAC
	copy(m[:], r.take(len(m)))
	return m
}
