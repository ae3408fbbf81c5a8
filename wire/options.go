package wire

import "netboot/api"

// Codes of options that are no options of a message.
const (
	optionNone  uint8 = 0   // a code alone, which fills up
	optionAreas uint8 = 52  // it says where more stand
	optionEnd   uint8 = 255 // a code alone
)

// Bits of the option that says where more stand.
const (
	inFile uint8 = 1 << iota
	inHost
	inBoth = inFile | inHost
)

const pieceSize = 255 // bytes of data that one length can tell

// Options: of a message of DHCP, in order; ahead of joined also of the pieces that they come in.
type Options []api.Option

// options: the pieces as they stand, up to their end. (Their data are not copied: joined does.)
func (r *reader) options() Options {
	var o Options
	for {
		code := r.byte()
		if code == optionEnd {
			return o
		}
		if code == optionNone {
			continue
		}
		size := int(r.byte())
		o = append(o, api.Option{Code: code, Data: r.take(size)})
	}
}

// Data: of all options of a code, one behind the other; false, if there is none.
func (o Options) Data(code uint8) (string, bool) {
	var data []byte
	found := false
	for _, one := range o {
		if one.Code == code {
			data = append(data, one.Data...)
			found = true
		}
	}
	return string(data), found
}

// Byte: the byte that the data of a code are; false, if they are not one.
func (o Options) Byte(code uint8) (uint8, bool) { return whole(o, code, (*reader).byte) }

// Long: the number that the data of a code are; false, if they are not four bytes.
func (o Options) Long(code uint8) (uint32, bool) { return whole(o, code, (*reader).long) }

// Address: the address that the data of a code are; false, if they are not four bytes.
func (o Options) Address(code uint8) (api.IP, bool) { return whole(o, code, (*reader).address) }

// FirstAddress: the one that the data of a code begin with; 0, if they are fewer than four bytes.
func (o Options) FirstAddress(code uint8) api.IP {
	data, _ := o.Data(code)
	a, _ := read(data, (*reader).address)
	return a
}

// whole: what how reads of the data of a code; false, if that is not all of them.
func whole[T any](o Options, code uint8, how func(*reader) T) (T, bool) {
	data, _ := o.Data(code)
	t, e := read(data, func(r *reader) T {
		t := how(r)
		must(r.rest == "", api.ErrForm)
		return t
	})
	return t, e == api.OK
}

// ByteOption: one with these bytes.
func ByteOption(code uint8, data ...uint8) api.Option {
	return api.Option{Code: code, Data: string(data)}
}

// AddressOption: one with these addresses.
func AddressOption(code uint8, as ...api.IP) api.Option {
	var w writer
	w.addresses(as...)
	return api.Option{Code: code, Data: w.text()}
}

// areas: those of the two where more options stand, in the order in which they are read.
func (o Options) areas(host, file string) []string {
	data, found := o.Data(optionAreas)
	if !found {
		return nil
	}
	must(len(data) == 1 && data[0] != 0 && data[0] <= inBoth, api.ErrForm)
	var out []string
	if data[0]&inFile != 0 {
		out = append(out, file)
	}
	if data[0]&inHost != 0 {
		out = append(out, host)
	}
	return out
}

func (o Options) without(code uint8) Options {
	var out Options
	for _, one := range o {
		if one.Code != code {
			out = append(out, one)
		}
	}
	return out
}

// joined: options of one code are one, where the first of them stands. The data are gathered by code, so that the time hangs on the bytes, not on how many pieces they come in.
func (o Options) joined() Options {
	var data [256][]byte
	var told [256]bool
	var out Options
	for _, one := range o {
		data[one.Code] = append(data[one.Code], one.Data...)
		if !told[one.Code] {
			told[one.Code] = true
			out = append(out, api.Option{Code: one.Code})
		}
	}
	for i := range out {
		out[i].Data = string(data[out[i].Code])
	}
	return out
}

// mayBeSaid: each of them is an option of a message.
func (o Options) mayBeSaid() bool {
	for _, one := range o {
		switch one.Code {
		case optionNone, optionAreas, optionEnd:
			return false
		}
	}
	return true
}

// options: all of them and their end. What would go above most bytes in all is not copied: the same long data may stand in a list any number of times.
func (w *writer) options(o Options, most int) {
	for _, one := range o {
		if len(w.out) > most {
			break
		}
		w.option(one)
	}
	w.bytes(optionEnd)
}

// option: in as many pieces as its data need, and in one if there are none.
func (w *writer) option(o api.Option) {
	data := o.Data
	for len(data) > pieceSize {
		w.piece(o.Code, data[:pieceSize])
		data = data[pieceSize:]
	}
	w.piece(o.Code, data)
}

func (w *writer) piece(code uint8, data string) {
	w.bytes(code, uint8(len(data)))
	w.texts(data)
}
