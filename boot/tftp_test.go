package boot_test

import (
	"slices"
	"strconv"
	"strings"
	"testing"

	"netboot/api"
	"netboot/boot"
)

func field(name, value string) api.Field { return api.Field{Name: name, Value: value} }

func sameTFTP(a, b api.TFTP) bool {
	return a.Op == b.Op && a.Block == b.Block && a.Text == b.Text && a.Data == b.Data && slices.Equal(a.Fields, b.Fields)
}

func wantTFTP(t *testing.T, s string, want api.TFTP, wrong api.Errno) {
	t.Helper()
	if got, e := boot.ReadTFTP(s); !sameTFTP(got, want) || e != wrong {
		t.Errorf("P5: ReadTFTP(%.80q), of %d bytes = %.60v, %d, want %.60v, %d", s, len(s), got, e, want, wrong)
	}
}

func wantNoTFTP(t *testing.T, s string, wrong api.Errno) {
	t.Helper()
	wantTFTP(t, s, api.TFTP{}, wrong)
}

func wantTFTPBytes(t *testing.T, m api.TFTP, want string, wrong api.Errno) {
	t.Helper()
	if got, e := boot.WriteTFTP(m); got != want || e != wrong {
		t.Errorf("P5: WriteTFTP(%.60v) = %.80q, of %d bytes, %d, want %.80q, of %d bytes, %d", m, got, len(got), e, want, len(want), wrong)
	}
}

// bothWays: s is read as m, and m is written as s.
func bothWays(t *testing.T, s string, m api.TFTP) {
	t.Helper()
	wantTFTP(t, s, m, api.OK)
	wantTFTPBytes(t, m, s, api.OK)
}

func TestTFTPBothWays(t *testing.T) {
	bothWays(t, "\x00\x01k\x00octet\x00", api.TFTP{Op: 1, Text: "k"})
	bothWays(t, "\x00\x01Kernel/7\x00octet\x00blksize\x00512\x00tsize\x000\x00", api.TFTP{Op: 1, Text: "Kernel/7", Fields: []api.Field{field("blksize", "512"), field("tsize", "0")}})
	bothWays(t, "\x00\x06", api.TFTP{Op: 6})
	bothWays(t, "\x00\x06b\x00Y\x00a\x00X\x00", api.TFTP{Op: 6, Fields: []api.Field{field("b", "Y"), field("a", "X")}})
	bothWays(t, "\x00\x03\x12\x34some data", api.TFTP{Op: 3, Block: 0x1234, Data: "some data"})
	bothWays(t, "\x00\x04\x12\x34", api.TFTP{Op: 4, Block: 0x1234})
	bothWays(t, "\x00\x05\x12\x34no such image\x00", api.TFTP{Op: 5, Block: 0x1234, Text: "no such image"})
}

func TestReadTFTPOfTheExamples(t *testing.T) {
	wantTFTP(t, "\x00\x01\x6b\x00\x4f\x43\x54\x45\x54\x00", api.TFTP{Op: 1, Text: "k"}, api.OK)
	wantNoTFTP(t, "\x00\x04\x00\x01\x00", api.ErrForm)
	wantTFTP(t, "\x00\x06BLKSIZE\x008\x00", api.TFTP{Op: 6, Fields: []api.Field{field("blksize", "8")}}, api.OK)
}

func TestReadTFTPOfFewBytes(t *testing.T) {
	wantNoTFTP(t, "", api.ErrShort)
	for op := range 256 {
		wantNoTFTP(t, string([]byte{byte(op)}), api.ErrShort)
	}
	for _, c := range []struct {
		s    string
		want api.TFTP
		e    api.Errno
	}{
		{"\x00\x01", api.TFTP{}, api.ErrForm}, {"\x00\x01k", api.TFTP{}, api.ErrForm}, {"\x00\x01k\x00", api.TFTP{}, api.ErrForm}, {"\x00\x01\x00\x00", api.TFTP{}, api.ErrForm},
		{"\x00\x03", api.TFTP{}, api.ErrShort}, {"\x00\x03\x00", api.TFTP{}, api.ErrShort}, {"\x00\x03\x00\x00", api.TFTP{Op: 3}, api.OK}, {"\x00\x03\xff\xfe", api.TFTP{Op: 3, Block: 0xfffe}, api.OK},
		{"\x00\x04", api.TFTP{}, api.ErrShort}, {"\x00\x04\x01", api.TFTP{}, api.ErrShort}, {"\x00\x04\x01\x00", api.TFTP{Op: 4, Block: 256}, api.OK},
		{"\x00\x05", api.TFTP{}, api.ErrShort}, {"\x00\x05\x00", api.TFTP{}, api.ErrShort}, {"\x00\x05\x00\x01", api.TFTP{}, api.ErrForm}, {"\x00\x05\x00\x01\x00", api.TFTP{Op: 5, Block: 1}, api.OK},
		{"\x00\x06", api.TFTP{Op: 6}, api.OK}, {"\x00\x06a", api.TFTP{}, api.ErrForm}, {"\x00\x06\x00", api.TFTP{}, api.ErrForm}, {"\x00\x06a\x00", api.TFTP{}, api.ErrForm}, {"\x00\x06\x00\x00", api.TFTP{}, api.ErrForm},
	} {
		wantTFTP(t, c.s, c.want, c.e)
	}
}

// Of each Op, with what stands behind Ops of each kind.
func TestTFTPOfEachOp(t *testing.T) {
	kinds := map[int]string{1: "k\x00octet\x00", 3: "\x00\x07data", 4: "\x00\x07", 5: "\x00\x07no\x00", 6: "a\x001\x00"}
	for op := range 65536 {
		head := string([]byte{byte(op >> 8), byte(op)})
		m := api.TFTP{Op: uint16(op), Block: 7, Text: "k", Data: "data"}
		_, right := kinds[op]
		if _, e := boot.WriteTFTP(m); (e == api.OK) != right || !right && e != api.ErrForm {
			t.Errorf("P5: WriteTFTP of Op %d: %d", op, e)
		}
		if right {
			if m, e := boot.ReadTFTP(head + kinds[op]); e != api.OK || m.Op != uint16(op) {
				t.Errorf("P5: ReadTFTP of Op %d = %v, %d", op, m, e)
			}
			continue
		}
		wantNoTFTP(t, head, api.ErrForm)
		wantNoTFTP(t, head+"\x00", api.ErrForm)
		for _, rest := range kinds {
			wantNoTFTP(t, head+rest, api.ErrForm)
		}
	}
	wantNoTFTP(t, "\x00\x02"+strings.Repeat("d", 2000), api.ErrForm)
}

func TestReadTFTPOfModes(t *testing.T) {
	for great := range 32 {
		mode := []byte("octet")
		for i := range mode {
			if great&(1<<i) != 0 {
				mode[i] -= 'a' - 'A'
			}
		}
		wantTFTP(t, "\x00\x01k\x00"+string(mode)+"\x00", api.TFTP{Op: 1, Text: "k"}, api.OK)
	}
	for _, mode := range []string{"", "o", "octe", "octets", "octet ", " octet", "netascii", "mail", "OCTE\x14", "\x4f\x43\x54\x45\x34", "ocтet", "/ctet", "octe\xd4"} {
		wantNoTFTP(t, "\x00\x01k\x00"+mode+"\x00", api.ErrForm)
		wantNoTFTP(t, "\x00\x01k\x00"+mode+"\x00a\x001\x00", api.ErrForm)
	}
}

// Each byte as a name, a field's name and a value, alone, at first, within and at last.
func TestTFTPOfEachLetter(t *testing.T) {
	for n := 1; n < 256; n++ {
		letter := string([]byte{byte(n)})
		small := letter
		if n >= 'A' && n <= 'Z' {
			small = string([]byte{byte(n + 32)})
		}
		for _, c := range [][2]string{{"", ""}, {"x", ""}, {"", "x"}, {"x", "y"}} {
			s, low := c[0]+letter+c[1], c[0]+small+c[1]
			name := api.TFTP{Op: 1, Text: s}
			fieldName := api.TFTP{Op: 6, Fields: []api.Field{field(s, "v")}}
			value := api.TFTP{Op: 6, Fields: []api.Field{field("n", s)}}
			nameBytes, fieldBytes, valueBytes := "\x00\x01"+s+"\x00octet\x00", "\x00\x06"+s+"\x00v\x00", "\x00\x06n\x00"+s+"\x00"
			if n < 33 || n > 126 {
				for _, m := range []api.TFTP{name, fieldName, value} {
					wantTFTPBytes(t, m, "", api.ErrForm)
				}
				for _, bytes := range []string{nameBytes, fieldBytes, valueBytes} {
					wantNoTFTP(t, bytes, api.ErrForm)
				}
				continue
			}
			bothWays(t, nameBytes, name)
			bothWays(t, valueBytes, value)
			if small == letter {
				bothWays(t, fieldBytes, fieldName)
				continue
			}
			wantTFTP(t, fieldBytes, api.TFTP{Op: 6, Fields: []api.Field{field(low, "v")}}, api.OK)
			wantTFTPBytes(t, fieldName, "", api.ErrForm)
		}
	}
}

func TestTFTPOfBytesZero(t *testing.T) {
	for _, s := range []string{"\x00", "a\x00", "\x00a", "a\x00b"} {
		wantTFTPBytes(t, api.TFTP{Op: 1, Text: s}, "", api.ErrForm)
		wantTFTPBytes(t, api.TFTP{Op: 1, Text: "k", Fields: []api.Field{field(s, "v")}}, "", api.ErrForm)
		wantTFTPBytes(t, api.TFTP{Op: 6, Fields: []api.Field{field("n", s)}}, "", api.ErrForm)
		wantTFTPBytes(t, api.TFTP{Op: 5, Text: s}, "", api.ErrForm)
		bothWays(t, "\x00\x03\x00\x00"+s, api.TFTP{Op: 3, Data: s})
	}
}

func TestTFTPOfNoBytes(t *testing.T) {
	wantNoTFTP(t, "\x00\x01\x00octet\x00", api.ErrForm)
	wantTFTPBytes(t, api.TFTP{Op: 1}, "", api.ErrForm)
	for _, op := range []uint16{1, 6} {
		head := "\x00\x06"
		if op == 1 {
			head = "\x00\x01k\x00octet\x00"
		}
		for _, f := range []api.Field{{}, field("n", ""), field("", "v")} {
			bytes := f.Name + "\x00" + f.Value + "\x00"
			wantNoTFTP(t, head+bytes, api.ErrForm)
			wantNoTFTP(t, head+"a\x001\x00"+bytes, api.ErrForm)
			wantNoTFTP(t, head+bytes+"a\x001\x00", api.ErrForm)
			wantTFTPBytes(t, api.TFTP{Op: op, Text: "k", Fields: []api.Field{f}}, "", api.ErrForm)
			wantTFTPBytes(t, api.TFTP{Op: op, Text: "k", Fields: []api.Field{field("a", "1"), f}}, "", api.ErrForm)
			wantTFTPBytes(t, api.TFTP{Op: op, Text: "k", Fields: []api.Field{f, field("a", "1")}}, "", api.ErrForm)
		}
	}
}

func TestTFTPOfFieldsThatComeTwice(t *testing.T) {
	for _, head := range []string{"\x00\x06", "\x00\x01k\x00octet\x00"} {
		for _, names := range [][]string{{"a", "a"}, {"a", "A"}, {"A", "a"}, {"A", "A"}, {"a", "b", "a"}, {"b", "a", "c", "B"}, {"blksize", "tsize", "BlkSize"}} {
			bytes := head
			m := api.TFTP{Op: uint16(head[1]), Text: "k"}
			for _, name := range names {
				bytes += name + "\x00v" + name + "\x00"
				m.Fields = append(m.Fields, field(name, "v"+name))
			}
			wantNoTFTP(t, bytes, api.ErrForm)
			wantTFTPBytes(t, m, "", api.ErrForm)
		}
	}
	wantTFTP(t, "\x00\x06b\x001\x00A\x001\x00aa\x001\x00a1\x001\x00", api.TFTP{Op: 6, Fields: []api.Field{field("b", "1"), field("a", "1"), field("aa", "1"), field("a1", "1")}}, api.OK)
	wantTFTP(t, "\x00\x06b\x00a\x00a\x00b\x00", api.TFTP{Op: 6, Fields: []api.Field{field("b", "a"), field("a", "b")}}, api.OK)
	wantTFTP(t, "\x00\x01a\x00octet\x00octet\x00a\x00a\x00octet\x00", api.TFTP{Op: 1, Text: "a", Fields: []api.Field{field("octet", "a"), field("a", "octet")}}, api.OK)
}

// Great letters are turned only in names of fields.
func TestReadTFTPOfGreatLetters(t *testing.T) {
	wantTFTP(t, "\x00\x01KERNEL\x00OcTeT\x00BLK@[Z`{size\x00X8\x00", api.TFTP{Op: 1, Text: "KERNEL", Fields: []api.Field{field("blk@[z`{size", "X8")}}, api.OK)
	wantTFTP(t, "\x00\x05\x00\x01NO\x00", api.TFTP{Op: 5, Block: 1, Text: "NO"}, api.OK)
	wantTFTP(t, "\x00\x03\x00\x01NO", api.TFTP{Op: 3, Block: 1, Data: "NO"}, api.OK)
	for _, f := range []api.Field{field("Blksize", "8"), field("blksizE", "8"), field("Z", "8")} {
		wantTFTPBytes(t, api.TFTP{Op: 6, Fields: []api.Field{field("a", "1"), f}}, "", api.ErrForm)
		wantTFTPBytes(t, api.TFTP{Op: 1, Text: "k", Fields: []api.Field{f}}, "", api.ErrForm)
	}
}

// A piece of a message is right only where a field ends.
func TestReadTFTPOfAMissingEnd(t *testing.T) {
	read := "\x00\x01k1\x00octet\x00aa\x0011\x00bb\x0022\x00"
	fields := []api.Field{field("aa", "11"), field("bb", "22")}
	for n := 2; n < len(read); n++ {
		switch n {
		case 11:
			wantTFTP(t, read[:n], api.TFTP{Op: 1, Text: "k1"}, api.OK)
		case 17:
			wantTFTP(t, read[:n], api.TFTP{Op: 1, Text: "k1", Fields: fields[:1]}, api.OK)
		default:
			wantNoTFTP(t, read[:n], api.ErrForm)
		}
	}
	options := "\x00\x06aa\x0011\x00bb\x0022\x00"
	for n := 3; n < len(options); n++ {
		if n == 8 {
			wantTFTP(t, options[:n], api.TFTP{Op: 6, Fields: fields[:1]}, api.OK)
			continue
		}
		wantNoTFTP(t, options[:n], api.ErrForm)
	}
	for _, s := range []string{"", "n", "no"} {
		wantNoTFTP(t, "\x00\x05\x00\x01"+s, api.ErrForm)
	}
}

func TestReadTFTPOfBytesBehind(t *testing.T) {
	for _, behind := range []string{"\x00", "x", "\x00\x00", "x\x00", strings.Repeat("x", 2000)} {
		wantNoTFTP(t, "\x00\x04\x00\x01"+behind, api.ErrForm)
		wantNoTFTP(t, "\x00\x05\x00\x01no\x00"+behind, api.ErrForm)
		wantNoTFTP(t, "\x00\x05\x00\x01\x00"+behind, api.ErrForm)
		wantNoTFTP(t, "\x00\x01k\x00octet\x00"+behind, api.ErrForm)
		wantNoTFTP(t, "\x00\x06a\x001\x00"+behind, api.ErrForm)
	}
}

func TestTFTPOfBlocks(t *testing.T) {
	data := noise(1, 70000)
	for _, n := range []int{0, 1, 2, 511, 512, 513, api.MaxBlock - 1, api.MaxBlock} {
		bothWays(t, "\x00\x03\xff\xff"+data[:n], api.TFTP{Op: 3, Block: 0xffff, Data: data[:n]})
	}
	for _, n := range []int{api.MaxBlock + 1, api.MaxBlock + 2, 1468, 1469, 70000} {
		wantNoTFTP(t, "\x00\x03\x00\x01"+data[:n], api.ErrLong)
		wantTFTPBytes(t, api.TFTP{Op: 3, Block: 1, Data: data[:n]}, "", api.ErrLong)
	}
}

func TestTFTPOfEachTextOfAnError(t *testing.T) {
	all := ""
	for n := 1; n < 256; n++ {
		letter := string([]byte{byte(n)})
		bothWays(t, "\x00\x05\x00\x09"+letter+"\x00", api.TFTP{Op: 5, Block: 9, Text: letter})
		all += letter
	}
	bothWays(t, "\x00\x05\x00\x00"+all+"\x00", api.TFTP{Op: 5, Text: all})
}

// What is read has no bound in all: that of a datagram is told where it comes from.
func TestReadTFTPOfLongMessages(t *testing.T) {
	long := strings.Repeat("x", 70000)
	wantTFTP(t, "\x00\x05\x00\x01"+long+"\x00", api.TFTP{Op: 5, Block: 1, Text: long}, api.OK)
	wantTFTP(t, "\x00\x01"+long+"\x00octet\x00", api.TFTP{Op: 1, Text: long}, api.OK)
	wantTFTP(t, "\x00\x06"+long+"\x00"+long+"\x00", api.TFTP{Op: 6, Fields: []api.Field{field(long, long)}}, api.OK)
}

func TestWriteTFTPLetsBeWhatDoesNotBelong(t *testing.T) {
	wrong := []api.Field{field("", "\x00"), field("A", ""), field("A", "")}
	long := strings.Repeat("x\x00", 5000)
	wantTFTPBytes(t, api.TFTP{Op: 1, Block: 7, Text: "k", Data: long}, "\x00\x01k\x00octet\x00", api.OK)
	wantTFTPBytes(t, api.TFTP{Op: 6, Block: 7, Text: long, Data: long}, "\x00\x06", api.OK)
	wantTFTPBytes(t, api.TFTP{Op: 3, Block: 7, Text: long, Data: "d", Fields: wrong}, "\x00\x03\x00\x07d", api.OK)
	wantTFTPBytes(t, api.TFTP{Op: 4, Block: 7, Text: long, Data: long, Fields: wrong}, "\x00\x04\x00\x07", api.OK)
	wantTFTPBytes(t, api.TFTP{Op: 5, Block: 7, Text: "no", Data: long, Fields: wrong}, "\x00\x05\x00\x07no\x00", api.OK)
}

func TestWriteTFTPOfTooMuch(t *testing.T) {
	const most = api.MaxLoad - 28
	x := strings.Repeat("x", 100000)
	for n, wrong := range map[int]api.Errno{most - 1: api.OK, most: api.OK, most + 1: api.ErrLong, most + 2: api.ErrLong, 90000: api.ErrLong} {
		for _, c := range []struct {
			bytes string
			m     api.TFTP
		}{
			{"\x00\x01" + x[:n-9] + "\x00octet\x00", api.TFTP{Op: 1, Text: x[:n-9]}},
			{"\x00\x01k\x00octet\x00n\x00" + x[:n-13] + "\x00", api.TFTP{Op: 1, Text: "k", Fields: []api.Field{field("n", x[:n-13])}}},
			{"\x00\x06" + x[:n-5] + "\x00v\x00", api.TFTP{Op: 6, Fields: []api.Field{field(x[:n-5], "v")}}},
			{"\x00\x06a\x00" + x[:500] + "\x00b\x00" + x[:n-508] + "\x00", api.TFTP{Op: 6, Fields: []api.Field{field("a", x[:500]), field("b", x[:n-508])}}},
			{"\x00\x05\x00\x01" + x[:n-5] + "\x00", api.TFTP{Op: 5, Block: 1, Text: x[:n-5]}},
		} {
			if wrong != api.OK {
				wantTFTPBytes(t, c.m, "", wrong)
				continue
			}
			bothWays(t, c.bytes, c.m)
		}
	}
}

func TestWriteTFTPTellsTheFirstOfTwoErrors(t *testing.T) {
	x := strings.Repeat("x", 2000)
	for _, fields := range [][]api.Field{{field("a", x), field("b", "")}, {field("a", x), field("B", "1")}, {field("a", x), field("a", "1")}, {field("a", x+" ")}, {field(x+"\x7f", "1")}, {field("a", x), field("b", x), field("c", x), field("b", "1")}} {
		wantTFTPBytes(t, api.TFTP{Op: 6, Fields: fields}, "", api.ErrForm)
		wantTFTPBytes(t, api.TFTP{Op: 1, Text: "k", Fields: fields}, "", api.ErrForm)
		wantTFTPBytes(t, api.TFTP{Op: 1, Text: x, Fields: fields}, "", api.ErrForm)
	}
	wantTFTPBytes(t, api.TFTP{Op: 1, Text: x + " "}, "", api.ErrForm)
	wantTFTPBytes(t, api.TFTP{Op: 1, Fields: []api.Field{field("a", x)}}, "", api.ErrForm)
	wantTFTPBytes(t, api.TFTP{Op: 5, Text: x + "\x00"}, "", api.ErrForm)
	wantTFTPBytes(t, api.TFTP{Op: 2, Text: x, Data: x}, "", api.ErrForm)
}

func TestTFTPLeavesListsAlone(t *testing.T) {
	for _, op := range []uint16{1, 6} {
		list := []api.Field{field("c", "3"), field("b", "2"), field("d", "4"), field("a", "1"), field("C", "x")}
		kept := slices.Clone(list)
		for n := range len(list) + 1 {
			boot.WriteTFTP(api.TFTP{Op: op, Text: "k", Fields: list[:n]})
			if !slices.Equal(list, kept) {
				t.Errorf("P1: WriteTFTP changed the list: %v", list)
			}
		}
	}
}

// Two answers at the same bytes have lists of their own.
func TestReadTFTPAnswersNewLists(t *testing.T) {
	s := "\x00\x06b\x002\x00a\x001\x00"
	a, _ := boot.ReadTFTP(s)
	b, _ := boot.ReadTFTP(s)
	a.Fields[0] = field("changed", "x")
	wantTFTP(t, s, b, api.OK)
	if b.Fields[0] != field("b", "2") {
		t.Errorf("P1: two answers share a list: %v", b.Fields)
	}
}

// A message with very many fields, or options in very many pieces, is told in a time that hangs on its bytes alone.
func TestManyFieldsAndPieces(t *testing.T) {
	var fields []api.Field
	var bytes strings.Builder
	for n := range 200000 {
		f := field("n"+strconv.Itoa(n), "1")
		fields = append(fields, f)
		bytes.WriteString(f.Name + "\x00" + f.Value + "\x00")
	}
	m := api.TFTP{Op: 6, Fields: fields}
	wantTFTP(t, "\x00\x06"+bytes.String(), m, api.OK)
	wantNoTFTP(t, "\x00\x06"+bytes.String()+"N7\x001\x00", api.ErrForm)
	wantTFTPBytes(t, m, "", api.ErrLong)
	wantOptions(t, strings.Repeat(piece(12, "a"), 2000000)+"\xff", option(12, strings.Repeat("a", 2000000)))
}
