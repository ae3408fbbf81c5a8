package wire

import (
	"slices"
	"strings"

	"netboot/api"
)

// The kinds of messages of TFTP.
const (
	TFTPRead uint16 = iota + 1
	_               // a write, which is none of the machine's
	TFTPData
	TFTPAck
	TFTPError
	TFTPOptions
)

const (
	tftpMode = "octet"
	textEnd  = "\x00"
)

// Letters of names and values.
const (
	leastLetter = 33
	mostLetter  = 126
)

// Fields: of a message of TFTP, in order.
type Fields []api.Field

// ReadTFTP: the message that s is.
func ReadTFTP(s string) (api.TFTP, api.Errno) { return read(s, (*reader).tftp) }

func (r *reader) tftp() api.TFTP {
	var m api.TFTP
	m.Op = r.word()
	switch m.Op {
	case TFTPRead:
		m.Text = get(r, (*reader).ended, IsName, api.ErrForm)
		get(r, (*reader).ended, isMode, api.ErrForm)
		fallthrough
	case TFTPOptions:
		m.Fields = r.fields()
	case TFTPData:
		m.Block = r.word()
		m.Data = get(r, (*reader).remaining, isBlock, api.ErrLong)
	case TFTPError:
		m.Block = r.word()
		m.Text = r.ended()
	case TFTPAck:
		m.Block = r.word()
	default:
		panic(api.ErrForm)
	}
	must(r.rest == "", api.ErrForm)
	return m
}

// ended: a text with its end behind it.
func (r *reader) ended() string {
	n := strings.Index(r.rest, textEnd)
	must(n >= 0, api.ErrForm)
	s := r.text(n)
	r.take(len(textEnd))
	return s
}

// fields: all that is still to be read.
func (r *reader) fields() Fields {
	var fs Fields
	for r.rest != "" {
		var f api.Field
		f.Name = small(get(r, (*reader).ended, IsName, api.ErrForm))
		f.Value = get(r, (*reader).ended, IsName, api.ErrForm)
		fs = append(fs, f)
	}
	must(fs.differ(), api.ErrForm)
	return fs
}

// WriteTFTP: the bytes of a message.
func WriteTFTP(m api.TFTP) (string, api.Errno) {
	if !mayBeTold(m) {
		return "", api.ErrForm
	}
	if m.Op == TFTPData && !isBlock(m.Data) {
		return "", api.ErrLong
	}
	var w writer
	w.tftp(m)
	if len(w.out) > udpLoad {
		return "", api.ErrLong
	}
	return w.text(), api.OK
}

func (w *writer) tftp(m api.TFTP) {
	w.words(m.Op)
	switch m.Op {
	case TFTPRead:
		w.ended(m.Text, tftpMode)
		fallthrough
	case TFTPOptions:
		w.fields(m.Fields, udpLoad)
	case TFTPData:
		w.words(m.Block)
		w.texts(m.Data)
	case TFTPError:
		w.words(m.Block)
		w.ended(m.Text)
	case TFTPAck:
		w.words(m.Block)
	}
}

// ended: texts, each with its end behind it.
func (w *writer) ended(ss ...string) {
	for _, s := range ss {
		w.texts(s, textEnd)
	}
}

// fields: what would go above most bytes in all is not copied: the same long value may stand in a list any number of times.
func (w *writer) fields(fs Fields, most int) {
	for _, f := range fs {
		if len(w.out) > most {
			break
		}
		w.ended(f.Name, f.Value)
	}
}

// mayBeTold: the message is of a kind, and no bytes of that kind could not be read again.
func mayBeTold(m api.TFTP) bool {
	switch m.Op {
	case TFTPRead:
		if !IsName(m.Text) {
			return false
		}
		fallthrough
	case TFTPOptions:
		return Fields(m.Fields).mayBeTold()
	case TFTPError:
		return !strings.Contains(m.Text, textEnd)
	case TFTPData, TFTPAck:
		return true
	}
	return false
}

// mayBeTold: names and values are right, and no name comes twice.
func (fs Fields) mayBeTold() bool {
	for _, f := range fs {
		if !IsName(f.Name) || small(f.Name) != f.Name || !IsName(f.Value) {
			return false
		}
	}
	return fs.differ()
}

// differ: no name comes twice. (The names are put in order, so that the same would stand side by side.)
func (fs Fields) differ() bool {
	names := make([]string, len(fs))
	for i, f := range fs {
		names[i] = f.Name
	}
	slices.Sort(names)
	return len(slices.Compact(names)) == len(fs)
}

// IsName: also of values, and of images.
func IsName(s string) bool {
	for i := range len(s) {
		if s[i] < leastLetter || s[i] > mostLetter {
			return false
		}
	}
	return s != ""
}

func isMode(s string) bool { return small(s) == tftpMode }

func isBlock(s string) bool { return len(s) <= api.MaxBlock }

// small: with small letters instead of great ones; all other bytes stay, which library calls on letters of all scripts do not promise.
func small(s string) string {
	out := []byte(s)
	for i, b := range out {
		if b >= 'A' && b <= 'Z' {
			out[i] = b - 'A' + 'a'
		}
	}
	return string(out)
}
