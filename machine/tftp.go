package machine

import (
	"strconv"

	"netboot/api"
	"netboot/wire"
)

// Ports: where a read goes, and those that the machine has to choose from.
const (
	portReads uint16 = 69
	portFirst uint16 = 1024
	ports            = 60000
)

// Names of fields.
const (
	fieldBlock  = "blksize"
	fieldWindow = "windowsize"
	fieldSize   = "tsize"
)

// Codes of errors.
const (
	codeNone   uint16 = 0
	codeSize   uint16 = 3
	codePort   uint16 = 5
	codeOption uint16 = 8
)

const mostDecimal = 9999999 // of seven digits

// letter: a message, and the port that it is from.
type letter struct {
	api.TFTP
	port uint16
}

// letterHands: by kinds of messages.
func letterHands() []hand[letter] {
	return []hand[letter]{
		{wire.TFTPError, (*Machine).errorCame},
		{wire.TFTPOptions, (*Machine).optionsCame},
		{wire.TFTPData, (*Machine).dataCame},
	}
}

// tftpCame: a datagram that is not DHCP's. What is not from where the image comes from is refused, but for an error: two that refuse each other's errors would never end.
func (m *Machine) tftpCame(p api.IPv4, u api.UDP) {
	if !m.isFetching() || p.From != m.images() || p.To != m.address() || u.To != m.fetch.port {
		return
	}
	t, e := wire.ReadTFTP(u.Load)
	switch {
	case e != api.OK:
	case m.phase == api.Reading || u.From == m.fetch.from:
		handOn(m, letterHands(), t.Op, letter{t, u.From})
	case t.Op != wire.TFTPError:
		m.refuse(u.From, codePort)
	}
}

// images: where they are.
func (m *Machine) images() api.IP { return m.lease.terms.images }

// datagram: with a message to a port.
func (m *Machine) datagram(to uint16, t api.TFTP) api.UDP {
	return api.UDP{From: m.fetch.port, To: to, Load: made(wire.WriteTFTP(t))}
}

// reading: the datagram that asks for the image.
func (m *Machine) reading() api.UDP {
	return m.datagram(portReads, api.TFTP{Op: wire.TFTPRead, Text: m.config.Name, Fields: wire.Fields{
		{Name: fieldBlock, Value: strconv.Itoa(m.config.Block)},
		{Name: fieldWindow, Value: strconv.Itoa(m.config.Window)},
		{Name: fieldSize, Value: "0"},
	}})
}

// acking: the datagram that says which block was the last to come.
func (m *Machine) acking() api.UDP {
	return m.datagram(m.fetch.from, api.TFTP{Op: wire.TFTPAck, Block: m.fetch.next - 1})
}

// refuse: an error is sent to a port, once.
func (m *Machine) refuse(port, code uint16) {
	t := api.TFTP{Op: wire.TFTPError, Block: code, Text: reason(code)}
	m.sendToNeighbour(m.images(), m.datagram(port, t))
}

func reason(code uint16) string {
	switch code {
	case codeSize:
		return "size"
	case codePort:
		return "port"
	default:
		return "option"
	}
}

// agree: to a field of options; if the machine does not, the code of the error.
func (m *Machine) agree(f api.Field) uint16 {
	n, isNumber := decimal(f.Value)
	switch {
	case !isNumber:
		return codeOption
	case f.Name == fieldSize && n > m.config.Cap:
		return codeSize
	case f.Name == fieldSize:
	case f.Name == fieldBlock && isIn(n, api.MinBlock, m.config.Block):
		m.fetch.block = n
	case f.Name == fieldWindow && isIn(n, 1, m.config.Window):
		m.fetch.window = n
	default:
		return codeOption
	}
	return codeNone
}

// decimal: the number that s is; false, if it is none, is told in another way than it would be written, or is too long.
func decimal(s string) (int, bool) {
	n, err := strconv.Atoi(s)
	if err != nil || !isIn(n, 0, mostDecimal) || strconv.Itoa(n) != s {
		return 0, false
	}
	return n, true
}
