package wire

import "netboot/api"

const (
	leastType  = 1536 // below it, the two bytes are a length
	leastFrame = 60
)

// ReadEther: the frame that s is.
func ReadEther(s string) (api.Ether, api.Errno) { return read(s, (*reader).ether) }

func (r *reader) ether() api.Ether {
	var e api.Ether
	e.To = r.card()
	e.From = r.card()
	e.Type = get(r, (*reader).word, isType, api.ErrType)
	e.Load = get(r, (*reader).remaining, isLoad, api.ErrLong)
	return e
}

// WriteEther: the bytes of a frame.
func WriteEther(e api.Ether) (string, api.Errno) {
	if !isType(e.Type) {
		return "", api.ErrType
	}
	if !isLoad(e.Load) {
		return "", api.ErrLong
	}
	var w writer
	w.cards(e.To, e.From)
	w.words(e.Type)
	w.texts(e.Load)
	w.fill(leastFrame)
	return w.text(), api.OK
}

func isType(n uint16) bool { return n >= leastType }

func isLoad(s string) bool { return len(s) <= api.MaxLoad }
