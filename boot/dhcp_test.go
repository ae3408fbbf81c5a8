package boot_test

import (
	"slices"
	"strings"
	"testing"

	"netboot/api"
	"netboot/boot"
)

// Where the parts of a message stand.
const (
	hostAt   = 44
	fileAt   = 108
	cookieAt = 236
)

// dhcpHead: the 240 bytes ahead of the options of a reply. Each byte that is let be is ee.
func dhcpHead() []byte {
	head := []byte("\x02\x01\x06\xee\x01\x02\x03\x04\xee\xee\xee\xee" +
		"\x0a\x00\x00\x05\x0a\x00\x00\x37\x0a\x00\x00\x09\xee\xee\xee\xee" +
		"\x02\x00\x00\xfe\x00\x2a")
	head = append(head, strings.Repeat("\xee", 10+64+128)...)
	return append(head, 0x63, 0x82, 0x53, 0x63)
}

// dhcpAreas: dhcpHead with two areas that begin as they are told, and the options behind it.
func dhcpAreas(host, file, options string) string {
	head := dhcpHead()
	copy(head[hostAt:fileAt], host)
	copy(head[fileAt:cookieAt], file)
	return string(head) + options
}

func dhcpWith(options string) string { return string(dhcpHead()) + options }

// message: of dhcpHead.
func message(options ...api.Option) api.DHCP {
	return api.DHCP{Reply: true, Xid: 0x01020304, Client: 0x0a000005, Yours: 0x0a000037, Next: 0x0a000009, Card: api.MAC{2, 0, 0, 0xfe, 0, 0x2a}, Options: options}
}

func option(code uint8, data string) api.Option { return api.Option{Code: code, Data: data} }

// piece: an option's bytes.
func piece(code uint8, data string) string { return string([]byte{code, byte(len(data))}) + data }

func sameMessage(a, b api.DHCP) bool {
	return a.Reply == b.Reply && a.Xid == b.Xid && a.Client == b.Client && a.Yours == b.Yours && a.Next == b.Next && a.Card == b.Card && slices.Equal(a.Options, b.Options)
}

func wantMessage(t *testing.T, s string, want api.DHCP, wrong api.Errno) {
	t.Helper()
	if got, e := boot.ReadDHCP(s); !sameMessage(got, want) || e != wrong {
		t.Errorf("P5: ReadDHCP(%.300x), of %d bytes = %.60v, %d, want %.60v, %d", s, len(s), got, e, want, wrong)
	}
}

// wantOptions: dhcpHead with these bytes behind it is a message with these options.
func wantOptions(t *testing.T, bytes string, want ...api.Option) {
	t.Helper()
	wantMessage(t, dhcpWith(bytes), message(want...), api.OK)
}

func wantNoMessage(t *testing.T, s string, wrong api.Errno) {
	t.Helper()
	wantMessage(t, s, api.DHCP{}, wrong)
}

func wantMessageBytes(t *testing.T, m api.DHCP, want string, wrong api.Errno) {
	t.Helper()
	if got, e := boot.WriteDHCP(m); got != want || e != wrong {
		t.Errorf("P5: WriteDHCP(%.60v) = %.320x, of %d bytes, %d, want %.320x, of %d bytes, %d", m, got, len(got), e, want, len(want), wrong)
	}
}

func TestReadDHCP(t *testing.T) {
	wantOptions(t, "\xff")
	wantOptions(t, "\x35\x01\x05\xff", option(53, "\x05"))
	ask := dhcpHead()
	ask[0] = 1
	want := message()
	want.Reply = false
	wantMessage(t, string(ask)+"\xff", want, api.OK)
}

func TestReadDHCPOfTheExamples(t *testing.T) {
	wantOptions(t, "\x35\x01\x01\xff", option(53, "\x01"))
	wantNoMessage(t, dhcpWith("\x35\x01\x01"), api.ErrShort)
	wantOptions(t, "\x0c\x01\x61\x0c\x01\x62\xff", option(12, "ab"))
}

func TestReadDHCPOfEachByteOfTheHead(t *testing.T) {
	set := func(at int, value byte) string {
		head := dhcpHead()
		head[at] = value
		return string(head) + "\xff"
	}
	var letBe []int
	letBe = append(letBe, 3, 8, 9, 10, 11)
	for at := 24; at < 28; at++ {
		letBe = append(letBe, at)
	}
	for at := 34; at < cookieAt; at++ {
		letBe = append(letBe, at)
	}
	for _, at := range letBe {
		for _, value := range []byte{0, 1, 52, 255} {
			wantMessage(t, set(at, value), message(), api.OK)
		}
	}
	for i := range 4 {
		for bit := range 8 {
			turned := uint32(1) << (24 - 8*i + bit)
			flip := func(at int) string { return set(at+i, dhcpHead()[at+i]^1<<bit) }
			m := message()
			m.Xid ^= turned
			wantMessage(t, flip(4), m, api.OK)
			m = message()
			m.Client ^= api.IP(turned)
			wantMessage(t, flip(12), m, api.OK)
			m = message()
			m.Yours ^= api.IP(turned)
			wantMessage(t, flip(16), m, api.OK)
			m = message()
			m.Next ^= api.IP(turned)
			wantMessage(t, flip(20), m, api.OK)
		}
	}
	for i := range 6 {
		m := message()
		m.Card[i] ^= 0x81
		wantMessage(t, set(28+i, m.Card[i]), m, api.OK)
	}
}

func TestReadDHCPOfTooFewBytes(t *testing.T) {
	right := dhcpWith("\xff")
	for n := range 240 {
		wantNoMessage(t, right[:n], api.ErrShort)
		wantNoMessage(t, strings.Repeat("\x00", n), api.ErrShort)
		wantNoMessage(t, strings.Repeat("\xff", n), api.ErrShort)
	}
	wantNoMessage(t, right[:240], api.ErrShort)
	wantMessage(t, right, message(), api.OK)
}

func TestReadDHCPOfWrongBytes(t *testing.T) {
	right := map[int][]byte{0: {1, 2}, 1: {1}, 2: {6}, 236: {0x63}, 237: {0x82}, 238: {0x53}, 239: {0x63}}
	for at, values := range right {
		for n := range 256 {
			if slices.Contains(values, byte(n)) {
				continue
			}
			head := dhcpHead()
			head[at] = byte(n)
			wantNoMessage(t, string(head)+"\xff", api.ErrForm)
			wantNoMessage(t, string(head), api.ErrForm)
			wantNoMessage(t, string(head)+"\x35\x01", api.ErrForm)
			wantNoMessage(t, string(head[:239]), api.ErrShort)
		}
	}
}

func TestReadDHCPOfEachCode(t *testing.T) {
	data := noise(1, 255)
	for code := 1; code < 255; code++ {
		if code == 52 {
			continue
		}
		for _, n := range []int{0, 1, code, 255} {
			want := option(uint8(code), data[:n])
			wantOptions(t, piece(want.Code, want.Data)+"\xff", want)
		}
	}
}

func TestReadDHCPUpToTheEnd(t *testing.T) {
	wantOptions(t, "\xff\x35\x01\x05\xff")
	wantOptions(t, "\xff\x34\x01\x00")
	wantOptions(t, "\x35\x01\x05\xff\x35\x01", option(53, "\x05"))
	wantOptions(t, "\x35\x01\xff\xff", option(53, "\xff"))
	wantOptions(t, "\xff"+strings.Repeat("\x00", 70000))
}

func TestReadDHCPOfCodesZero(t *testing.T) {
	wantOptions(t, "\x00\xff")
	wantOptions(t, "\x00\x00\x35\x01\x00\x00\x0c\x00\x00\x00\xff", option(53, "\x00"), option(12, ""))
	wantOptions(t, strings.Repeat("\x00", 70000)+"\xff")
	for n := range 5 {
		wantNoMessage(t, dhcpWith(strings.Repeat("\x00", n)), api.ErrShort)
	}
}

func TestReadDHCPWithoutAnEnd(t *testing.T) {
	options := piece(53, "\x05") + "\x00" + piece(12, "") + piece(51, "time") + piece(12, noise(2, 255)) + "\xff"
	for n := range len(options) {
		wantNoMessage(t, dhcpWith(options[:n]), api.ErrShort)
	}
	wantOptions(t, options, option(53, "\x05"), option(12, noise(2, 255)), option(51, "time"))
	wantNoMessage(t, dhcpWith("\x35\x02\xff"), api.ErrShort)
	wantNoMessage(t, dhcpWith("\x35\xff"), api.ErrShort)
}

func TestReadDHCPOfOneCodeSeveralTimes(t *testing.T) {
	wantOptions(t, piece(12, "a")+piece(53, "\x05")+piece(12, "bc")+piece(53, "")+piece(12, "d")+"\xff", option(12, "abcd"), option(53, "\x05"))
	wantOptions(t, piece(12, "")+piece(12, "")+"\xff", option(12, ""))
	wantOptions(t, piece(12, "")+piece(3, "x")+piece(12, "a")+"\xff", option(12, "a"), option(3, "x"))
	wantOptions(t, piece(254, "c")+piece(1, "b")+piece(254, "a")+piece(1, "a")+"\xff", option(254, "ca"), option(1, "ba"))
	long := noise(3, 3*255)
	wantOptions(t, piece(12, long[:255])+piece(12, long[255:510])+piece(12, long[510:])+"\xff", option(12, long))
	wantOptions(t, strings.Repeat(piece(12, "ab")+piece(13, "c"), 20000)+"\xff", option(12, strings.Repeat("ab", 20000)), option(13, strings.Repeat("c", 20000)))
}

func TestReadDHCPOfMoreOptionsInAreas(t *testing.T) {
	host, file := piece(3, "h")+"\xff", piece(1, "f")+"\xff"
	for _, c := range []struct {
		areas byte
		want  []api.Option
	}{
		{1, []api.Option{option(53, "m"), option(1, "f")}},
		{2, []api.Option{option(53, "m"), option(3, "h")}},
		{3, []api.Option{option(53, "m"), option(1, "f"), option(3, "h")}},
	} {
		where := piece(52, string([]byte{c.areas}))
		for _, s := range []string{where + piece(53, "m"), piece(53, "m") + where, "\x00" + where + "\x00" + piece(53, "m")} {
			wantMessage(t, dhcpAreas(host, file, s+"\xff"), message(c.want...), api.OK)
		}
	}
	wantMessage(t, dhcpAreas(host, file, piece(53, "m")+"\xff"), message(option(53, "m")), api.OK)
	wantMessage(t, dhcpAreas("\xff", "\xff", piece(52, "\x03")+"\xff"), message(), api.OK)
	wantMessage(t, dhcpAreas("\x00\x00\xff", "\x00\xff", piece(52, "\x03")+"\xff"), message(), api.OK)
}

// An area that 52 does not name is let be, whatever stands there.
func TestReadDHCPOfAnAreaThatIsNotNamed(t *testing.T) {
	for _, junk := range []string{"", "\x34\x01\x01\xff", "\x34\x01\x09\xff", strings.Repeat("\x00", 128), piece(53, "\x01") + "\xff"} {
		wantMessage(t, dhcpAreas(junk, "\xff", piece(52, "\x01")+"\xff"), message(), api.OK)
		wantMessage(t, dhcpAreas("\xff", junk, piece(52, "\x02")+"\xff"), message(), api.OK)
		wantMessage(t, dhcpAreas(junk, junk, "\xff"), message(), api.OK)
	}
}

func TestReadDHCPOfOneCodeInSeveralAreas(t *testing.T) {
	host, file := piece(12, "d")+piece(3, "h")+piece(12, "e")+"\xff", piece(1, "f")+piece(12, "c")+"\xff"
	wantMessage(t, dhcpAreas(host, file, piece(12, "a")+piece(52, "\x03")+piece(12, "b")+"\xff"), message(option(12, "abcde"), option(1, "f"), option(3, "h")), api.OK)
	wantMessage(t, dhcpAreas(host, file, piece(52, "\x03")+"\xff"), message(option(1, "f"), option(12, "cde"), option(3, "h")), api.OK)
	wantMessage(t, dhcpAreas(host, file, piece(52, "\x02")+piece(3, "")+"\xff"), message(option(3, "h"), option(12, "de")), api.OK)
}

// The areas end where they end: what stands behind them is not read as theirs.
func TestReadDHCPOfFullAreas(t *testing.T) {
	long := noise(4, 128)
	for _, c := range []struct {
		size  int
		areas string
		put   func(area string) string
	}{
		{128, "\x01", func(area string) string { return dhcpAreas("", area, piece(52, "\x01")+"\xff") }},
		{64, "\x02", func(area string) string { return dhcpAreas(area, "\xff", piece(52, "\x02")+"\xff") }},
	} {
		wantMessage(t, c.put(piece(12, long[:c.size-3])+"\xff"), message(option(12, long[:c.size-3])), api.OK)
		wantMessage(t, c.put(strings.Repeat("\x00", c.size-1)+"\xff"), message(), api.OK)
		wantNoMessage(t, c.put(piece(12, long[:c.size-2])), api.ErrShort)
		wantNoMessage(t, c.put(string([]byte{12, byte(c.size - 1)})+long[:c.size-2]), api.ErrShort)
		wantNoMessage(t, c.put(strings.Repeat("\x00", c.size)), api.ErrShort)
		wantNoMessage(t, c.put(strings.Repeat("\x00", c.size-1)+"\x0c"), api.ErrShort)
		wantNoMessage(t, c.put(strings.Repeat("\x00", c.size-2)+"\x0c\x01"), api.ErrShort)
	}
}

func TestReadDHCPOfWrongAreas(t *testing.T) {
	for n := range 256 {
		s := dhcpAreas("\xff", "\xff", piece(52, string([]byte{byte(n)}))+"\xff")
		if n >= 1 && n <= 3 {
			wantMessage(t, s, message(), api.OK)
		} else {
			wantNoMessage(t, s, api.ErrForm)
		}
	}
	for _, data := range []string{"", "\x01\x01", "\x01\x00", "\x00\x01", "\x01\x02\x03", noise(5, 255)} {
		wantNoMessage(t, dhcpAreas("\xff", "\xff", piece(52, data)+"\xff"), api.ErrForm)
	}
	wantNoMessage(t, dhcpAreas("\xff", "\xff", piece(52, "\x01")+piece(53, "\x01")+piece(52, "\x02")+"\xff"), api.ErrForm)
	wantMessage(t, dhcpAreas("\xff", "\xff", piece(52, "")+piece(52, "\x01")+piece(52, "")+"\xff"), message(), api.OK)
}

func TestReadDHCPOfAreasThatNameAreas(t *testing.T) {
	for _, data := range []string{"", "\x00", "\x01", "\x02", "\x03", "\x04", "\x01\x01"} {
		area := piece(53, "\x01") + piece(52, data) + "\xff"
		wantNoMessage(t, dhcpAreas("", area, piece(52, "\x01")+"\xff"), api.ErrForm)
		wantNoMessage(t, dhcpAreas(area, "", piece(52, "\x02")+"\xff"), api.ErrForm)
		wantNoMessage(t, dhcpAreas(area, "\xff", piece(52, "\x03")+"\xff"), api.ErrForm)
		wantNoMessage(t, dhcpAreas("\xff", area, piece(52, "\x03")+"\xff"), api.ErrForm)
	}
}

func TestReadDHCPTellsTheFirstOfTwoErrors(t *testing.T) {
	endless, again := strings.Repeat("\x00", 128), piece(52, "\x01")+"\xff"
	wantNoMessage(t, dhcpWith(piece(52, "\x00")), api.ErrShort)
	wantNoMessage(t, dhcpWith(piece(52, "\x01\x01")+"\x00"), api.ErrShort)
	wantNoMessage(t, dhcpAreas(endless, endless, piece(52, "\x04")+"\xff"), api.ErrForm)
	wantNoMessage(t, dhcpAreas(again, again, piece(52, "\x01")), api.ErrShort)
	wantNoMessage(t, dhcpAreas(again, endless, piece(52, "\x03")+"\xff"), api.ErrShort)
	wantNoMessage(t, dhcpAreas(endless, again, piece(52, "\x03")+"\xff"), api.ErrShort)
	wantNoMessage(t, dhcpAreas("", piece(52, "\x01"), piece(52, "\x01")+"\xff"), api.ErrShort)
}

// written: the head of message as it is written, with the names 0, and the options behind it, filled up.
func written(options string) string {
	s := "\x02\x01\x06\x00\x01\x02\x03\x04\x00\x00\x00\x00" +
		"\x0a\x00\x00\x05\x0a\x00\x00\x37\x0a\x00\x00\x09\x00\x00\x00\x00" +
		"\x02\x00\x00\xfe\x00\x2a" + strings.Repeat("\x00", 202) + "\x63\x82\x53\x63" + options
	return s + strings.Repeat("\x00", max(0, 300-len(s)))
}

func TestWriteDHCP(t *testing.T) {
	wantMessageBytes(t, message(), written("\xff"), api.OK)
	wantMessageBytes(t, message(option(53, "\x03"), option(50, "\x0a\x00\x00\x37"), option(1, "")), written("\x35\x01\x03\x32\x04\x0a\x00\x00\x37\x01\x00\xff"), api.OK)
	ask := message()
	ask.Reply = false
	wantMessageBytes(t, ask, "\x01"+written("\xff")[1:], api.OK)
	wantMessageBytes(t, api.DHCP{}, "\x01\x01\x06"+strings.Repeat("\x00", 7)+"\x80"+strings.Repeat("\x00", 225)+"\x63\x82\x53\x63\xff"+strings.Repeat("\x00", 59), api.OK)
}

func TestWriteDHCPOfEachNumber(t *testing.T) {
	right := written("\xff")
	flip := func(at, bit int) string { return right[:at] + string([]byte{right[at] ^ 1<<bit}) + right[at+1:] }
	for i := range 4 {
		for bit := range 8 {
			turned := uint32(1) << (24 - 8*i + bit)
			m := message()
			m.Xid ^= turned
			wantMessageBytes(t, m, flip(4+i, bit), api.OK)
			m = message()
			m.Client ^= api.IP(turned)
			wantMessageBytes(t, m, flip(12+i, bit), api.OK)
			m = message()
			m.Yours ^= api.IP(turned)
			wantMessageBytes(t, m, flip(16+i, bit), api.OK)
			m = message()
			m.Next ^= api.IP(turned)
			wantMessageBytes(t, m, flip(20+i, bit), api.OK)
		}
	}
	for i := range 6 {
		m := message()
		m.Card[i] ^= 1
		wantMessageBytes(t, m, flip(28+i, 0), api.OK)
	}
}

func TestWriteDHCPOfFlags(t *testing.T) {
	right := written("\xff")
	for _, reply := range []bool{false, true} {
		m := message()
		m.Reply = reply
		first := "\x01" + right[1:10]
		if reply {
			first = right[:10]
		}
		m.Client = 0
		wantMessageBytes(t, m, first+"\x80\x00\x00\x00\x00\x00"+right[16:], api.OK)
		for bit := range 32 {
			m.Client = 1 << bit
			c := m.Client
			wantMessageBytes(t, m, first+"\x00\x00"+string([]byte{byte(c >> 24), byte(c >> 16), byte(c >> 8), byte(c)})+right[16:], api.OK)
		}
	}
}

func TestWriteDHCPOfEachCode(t *testing.T) {
	long := option(12, noise(6, 2000))
	for n := range 256 {
		code := uint8(n)
		if code == 0 || code == 52 || code == 255 {
			for _, data := range []string{"", "\x01", noise(7, 2000)} {
				wrong := option(code, data)
				wantMessageBytes(t, message(wrong), "", api.ErrForm)
				wantMessageBytes(t, message(option(1, "x"), wrong), "", api.ErrForm)
				wantMessageBytes(t, message(wrong, option(1, "x")), "", api.ErrForm)
				wantMessageBytes(t, message(long, wrong), "", api.ErrForm)
				wantMessageBytes(t, message(long, long, option(1, ""), wrong, long), "", api.ErrForm)
			}
			continue
		}
		wantMessageBytes(t, message(option(code, "x")), written(piece(code, "x")+"\xff"), api.OK)
	}
}

func TestWriteDHCPInPieces(t *testing.T) {
	data := noise(8, 1300)
	for _, c := range []struct {
		n      int
		pieces []int
	}{
		{0, []int{0}}, {1, []int{1}}, {254, []int{254}}, {255, []int{255}}, {256, []int{255, 1}}, {509, []int{255, 254}}, {510, []int{255, 255}}, {511, []int{255, 255, 1}}, {765, []int{255, 255, 255}}, {766, []int{255, 255, 255, 1}},
	} {
		want, at := "", 0
		for _, n := range c.pieces {
			want += piece(43, data[at:at+n])
			at += n
		}
		m := message(option(1, "a"), option(43, data[:c.n]), option(2, "b"))
		s := written(piece(1, "a") + want + piece(2, "b") + "\xff")
		wantMessageBytes(t, m, s, api.OK)
		wantMessage(t, s, m, api.OK)
	}
}

// What a list tells is written as it stands: options of one code are joined only where they are read.
func TestWriteDHCPOfOneCodeTwice(t *testing.T) {
	s := written(piece(12, "a") + piece(3, "x") + piece(12, "b") + "\xff")
	wantMessageBytes(t, message(option(12, "a"), option(3, "x"), option(12, "b")), s, api.OK)
	wantMessage(t, s, message(option(12, "ab"), option(3, "x")), api.OK)
}

func TestWriteDHCPFillsUp(t *testing.T) {
	data := noise(9, 60)
	for n := range 61 {
		s, e := boot.WriteDHCP(message(option(43, data[:n])))
		want := max(300, 240+2+n+1)
		if e != api.OK || len(s) != want || s[:242+n] != written(piece(43, data[:n]))[:242+n] || s[242+n] != 255 || strings.Trim(s[243+n:], "\x00") != "" {
			t.Errorf("P5: WriteDHCP of %d bytes of data: %x, %d", n, s, e)
		}
	}
}

func TestWriteDHCPOfTooMuch(t *testing.T) {
	const most = api.MaxLoad - 28
	data := noise(10, 100000)
	for n := 1200; n < 1300; n++ {
		size := 240 + n + 2*((n+254)/255) + 1
		s, e := boot.WriteDHCP(message(option(43, data[:n])))
		if size <= most && (e != api.OK || len(s) != size) || size > most && (e != api.ErrLong || s != "") {
			t.Errorf("P5: WriteDHCP of %d bytes of data: %d bytes, %d, want %d", n, len(s), e, size)
		}
	}
	wantMessageBytes(t, message(option(43, data)), "", api.ErrLong)
	room := most - 241
	var many []api.Option
	for i := range room / 2 {
		many = append(many, option(uint8(1+i%50), ""))
	}
	last := many[len(many)-1].Code
	full := append(slices.Clone(many[:len(many)-1]), option(last, "x"))
	if s, e := boot.WriteDHCP(message(many...)); e != api.OK || len(s) != most-1 {
		t.Errorf("P5: WriteDHCP of %d options: %d bytes, %d", len(many), len(s), e)
	}
	if s, e := boot.WriteDHCP(message(full...)); e != api.OK || len(s) != most {
		t.Errorf("P5: WriteDHCP of %d options: %d bytes, %d", len(full), len(s), e)
	}
	wantMessageBytes(t, message(append(many, option(1, ""))...), "", api.ErrLong)
	wantMessageBytes(t, message(append(full, option(1, ""))...), "", api.ErrLong)
	wantMessageBytes(t, message(slices.Repeat([]api.Option{option(43, data)}, 100000)...), "", api.ErrLong)
}

func TestDHCPLeavesListsAlone(t *testing.T) {
	list := []api.Option{option(53, "\x01"), option(12, noise(11, 300)), option(53, "\x02"), option(12, ""), option(1, "x")}
	kept := slices.Clone(list)
	m := message(list[:4]...)
	boot.WriteDHCP(m)
	if !slices.Equal(list, kept) {
		t.Errorf("P1: WriteDHCP changed the list: %v", list)
	}
	list[3] = option(52, "")
	kept = slices.Clone(list)
	boot.WriteDHCP(m)
	if !slices.Equal(list, kept) {
		t.Errorf("P1: WriteDHCP changed the list: %v", list)
	}
}

// Two answers at the same bytes have lists of their own.
func TestReadDHCPAnswersNewLists(t *testing.T) {
	s := dhcpAreas(piece(3, "h")+"\xff", piece(1, "f")+"\xff", piece(53, "\x05")+piece(52, "\x03")+"\xff")
	a, _ := boot.ReadDHCP(s)
	b, _ := boot.ReadDHCP(s)
	a.Options[0] = option(9, "changed")
	wantMessage(t, s, b, api.OK)
	if b.Options[0] != option(53, "\x05") {
		t.Errorf("P1: two answers share a list: %v", b.Options)
	}
}
