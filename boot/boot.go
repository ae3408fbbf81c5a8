// Package boot: a machine that boots over a network, a step at a time: see DOC.md.
package boot

import (
	"netboot/api"
	"netboot/digest"
	"netboot/machine"
	"netboot/wire"
)

// Hash: SHA-256. Check: the sum of the internet (P2).
func Hash(s string) string {
	sum := digest.Of(s)
	return string(sum[:])
}

func Check(s string) uint16 { return wire.Check(s) }

// ReadEther, WriteEther: frames. ReadARP, WriteARP: what they carry (P3).
func ReadEther(s string) (api.Ether, api.Errno) { return wire.ReadEther(s) }

func WriteEther(e api.Ether) (string, api.Errno) { return wire.WriteEther(e) }

func ReadARP(s string) (api.ARP, api.Errno) { return wire.ReadARP(s) }

func WriteARP(a api.ARP) (string, api.Errno) { return wire.WriteARP(a) }

// ReadIP, WriteIP: packets. ReadUDP, WriteUDP: datagrams (P4).
func ReadIP(s string) (api.IPv4, api.Errno) { return wire.ReadIP(s) }

func WriteIP(p api.IPv4) (string, api.Errno) { return wire.WriteIP(p) }

func ReadUDP(s string, from api.IP, to api.IP) (api.UDP, api.Errno) {
	return wire.ReadUDP(s, from, to)
}

func WriteUDP(u api.UDP, from api.IP, to api.IP) (string, api.Errno) {
	return wire.WriteUDP(u, from, to)
}

// ReadDHCP, WriteDHCP: messages of DHCP. ReadTFTP, WriteTFTP: of TFTP (P5).
func ReadDHCP(s string) (api.DHCP, api.Errno) { return wire.ReadDHCP(s) }

func WriteDHCP(m api.DHCP) (string, api.Errno) { return wire.WriteDHCP(m) }

func ReadTFTP(s string) (api.TFTP, api.Errno) { return wire.ReadTFTP(s) }

func WriteTFTP(m api.TFTP) (string, api.Errno) { return wire.WriteTFTP(m) }

// Boot: a machine.
type Boot struct{ made *machine.Machine }

// machine: the one that New made. Where New made none there is one without room for frames, of which nothing is kept: the calls answer all the same.
func (b *Boot) machine() *machine.Machine {
	if b == nil || b.made == nil {
		return new(machine.Machine)
	}
	return b.made
}

// New: of a configuration (P6).
func New(c api.Config) (*Boot, api.Errno) {
	m, e := machine.New(c)
	if e != api.OK {
		return nil, e
	}
	return &Boot{m}, api.OK
}

// Put: a frame comes to the card (P6).
func (b *Boot) Put(frame string) bool { return b.machine().Put(frame) }

// Take: a frame that is to be sent (P6).
func (b *Boot) Take() (string, bool) { return b.machine().Take() }

// Poll: frames are looked at (P6 to P10).
func (b *Boot) Poll(n int) int { return b.machine().Poll(n) }

// Tick: time goes on (P6 to P10).
func (b *Boot) Tick(draw uint32) { b.machine().Tick(draw) }

// Look: what there is (P6).
func (b *Boot) Look() api.Look { return b.machine().Look() }

// Image: the image, if it is there whole (P6).
func (b *Boot) Image() (string, bool) { return b.machine().Image() }
