package impl

import (
	"bytes"
	"cmp"
	"strconv"
)

const MaxBody = 16

const FlSyn = 1
const FlAck = 2
const FlFin = 4
const FlRst = 8

const maxWord = 65535
const maxFlags = 15
const maxSummed = 2000

// A packet's bytes are a head of a fixed length, with the sum at its end, and the body.
const headLen = 10
const sumAt = 8

type Flow struct {
	Addr int
	Port int
}

type Packet struct {
	Flow  Flow
	Flags int
	Seq   int
	Body  []byte
}

// flagSet is Flags with methods: the field itself has to stay a plain int.
type flagSet int

// These are FlSyn, FlAck, FlFin and FlRst; flagLetters goes by their order.
const (
	synFlag flagSet = 1 << iota
	ackFlag
	finFlag
	rstFlag
)

const flagLetters = "safr"

func (s flagSet) hasAny(flags flagSet) bool { return s&flags != 0 }

func (s flagSet) ok() bool {
	if s < 0 || s > maxFlags {
		return false
	}
	return !s.hasAny(synFlag) || !s.hasAny(finFlag|rstFlag)
}

func (s flagSet) letters() []byte {
	var letters []byte
	for i := range len(flagLetters) {
		if s.hasAny(synFlag << i) {
			letters = append(letters, flagLetters[i])
		}
	}
	return letters
}

func isWord(n int) bool { return n >= 0 && n <= maxWord }

func FlowOk(f Flow) bool { return isWord(f.Addr) && isWord(f.Port) }

func FlowCmp(a Flow, b Flow) int {
	if !FlowOk(a) || !FlowOk(b) {
		return 0
	}
	ranks := flowRanks(a, b)
	return cmp.Compare(ranks[a], ranks[b])
}

// flowRanks gives each flow one number, so that Addr outweighs every Port.
// The flows have to be FlowOk.
func flowRanks(flows ...Flow) map[Flow]int {
	ranks := make(map[Flow]int, len(flows))
	for _, f := range flows {
		ranks[f] = f.Addr*(maxWord+1) + f.Port
	}
	return ranks
}

func PacketOk(p Packet) bool {
	return FlowOk(p.Flow) && flagSet(p.Flags).ok() && isWord(p.Seq) && len(p.Body) <= MaxBody
}

// isNoPacket tells the zero value, whose list may be empty or nil.
func isNoPacket(p Packet) bool {
	return p.Flow == Flow{} && p.Flags == 0 && p.Seq == 0 && len(p.Body) == 0
}

func CheckSum(b []byte) int {
	if len(b) > maxSummed {
		return -1
	}
	n := 0
	for i := 0; i < len(b); i += 2 {
		n += pairAt(b, i)
		if n > maxWord {
			n -= maxWord
		}
	}
	return maxWord - n
}

// pairAt takes a 0 for the second byte where b ends behind the first.
func pairAt(b []byte, i int) int {
	pair := int(b[i]) << 8
	if i+1 < len(b) {
		pair |= int(b[i+1])
	}
	return pair
}

func appendWord(b []byte, n int) []byte { return append(b, byte(n>>8), byte(n)) }

func PacketBytes(p Packet) ([]byte, bool) {
	if !PacketOk(p) {
		return nil, false
	}
	b := make([]byte, 0, headLen+MaxBody)
	b = appendWord(b, p.Flow.Addr)
	b = appendWord(b, p.Flow.Port)
	b = appendWord(b, p.Seq)
	b = append(b, byte(p.Flags), byte(len(p.Body)))
	b = appendWord(b, 0)
	b = append(b, p.Body...)
	sum := CheckSum(b)
	b[sumAt], b[sumAt+1] = byte(sum>>8), byte(sum)
	return b, true
}

// PacketRead holds b against the bytes of what it read, since a sum of 0 is not
// proof enough: where the bytes say 0 as S, 65535 sums up to the same.
func PacketRead(b []byte) (Packet, bool) {
	if len(b) < headLen {
		return Packet{}, false
	}
	p := unpack(b)
	own, ok := PacketBytes(p)
	if !ok || !bytes.Equal(own, b) {
		return Packet{}, false
	}
	return p, true
}

// unpack takes all behind the head as the body, and looks at neither the byte
// with its length nor the sum: the reader holds these against b.
func unpack(b []byte) Packet {
	return Packet{
		Flow:  Flow{Addr: pairAt(b, 0), Port: pairAt(b, 2)},
		Seq:   pairAt(b, 4),
		Flags: int(b[6]),
		Body:  append([]byte(nil), b[headLen:]...),
	}
}

func clonePacket(p Packet) Packet {
	p.Body = append([]byte(nil), p.Body...)
	return p
}

func Opens(p Packet) bool {
	flags := flagSet(p.Flags)
	return PacketOk(p) && flags.hasAny(synFlag) && !flags.hasAny(ackFlag)
}

func PacketText(p Packet) []byte {
	if !PacketOk(p) {
		return nil
	}
	text := appendFlow(nil, p.Flow)
	text = append(text, ' ')
	text = append(text, flagSet(p.Flags).letters()...)
	text = append(text, " #"...)
	text = appendInt(text, p.Seq)
	text = append(text, " +"...)
	return appendInt(text, len(p.Body))
}

func appendFlow(text []byte, f Flow) []byte {
	text = append(appendInt(text, f.Addr), ':')
	return appendInt(text, f.Port)
}

func appendInt(text []byte, n int) []byte { return strconv.AppendInt(text, int64(n), 10) }
