package tests

import (
	"bytes"
	"testing"

	"loop.example/g00607/impl"
)

// roomy is a copy of b with spare room behind it that is full of 0xee, and all of that memory.
func roomy(b []byte) ([]byte, []byte) {
	whole := append(bytes.Clone(b), bytes.Repeat([]byte{0xee}, 40)...)
	return whole[:len(b)], whole
}

// scribble writes over all memory of an answer, its spare room too.
func scribble(b []byte) {
	b = b[:cap(b)]
	for i := range b {
		b[i] ^= 0xff
	}
}

func TestNoArgumentIsWrittenIntoNorItsSpareRoom(t *testing.T) {
	for n := range impl.MaxBody + 3 {
		body, whole := roomy(counting(n, 90))
		before := bytes.Clone(whole)
		p := impl.Packet{Flow: flow(258, 80), Flags: impl.FlSyn, Seq: 7, Body: body}
		impl.PacketOk(p)
		impl.Opens(p)
		impl.CheckSum(body)
		impl.PacketRead(body)
		text := impl.PacketText(p)
		b, _ := impl.PacketBytes(p)
		scribble(text)
		scribble(b)
		if !bytes.Equal(whole, before) {
			t.Fatalf("a body of %d bytes: % x became % x", n, before, whole)
		}
	}
}

func TestPacketBytesAreNewMemory(t *testing.T) {
	p := impl.Packet{Flow: flow(258, 80), Seq: 7, Body: []byte{1, 2, 3}}
	b, again := bytesOf(t, p), bytesOf(t, p)
	kept := bytes.Clone(again)
	scribble(b)
	if !bytes.Equal(again, kept) || !bytes.Equal(p.Body, []byte{1, 2, 3}) {
		t.Fatal("two answers, or answer and body, share memory")
	}
	p.Body[0] = 9
	if !bytes.Equal(again, kept) {
		t.Fatal("the bytes follow the body")
	}
	text, next := impl.PacketText(p), impl.PacketText(p)
	scribble(text)
	if string(next) != "258:80  #7 +3" {
		t.Fatal("two texts share memory")
	}
}

func TestPacketReadIsNewMemory(t *testing.T) {
	for n := range impl.MaxBody + 1 {
		b, whole := roomy(bytesOf(t, impl.Packet{Flow: flow(258, 80), Seq: 7, Body: counting(n, 60)}))
		before := bytes.Clone(whole)
		p, ok := impl.PacketRead(b)
		q, fine := impl.PacketRead(b)
		if !ok || !fine || !bytes.Equal(whole, before) {
			t.Fatalf("a body of %d bytes: reading wrote", n)
		}
		scribble(p.Body)
		if !bytes.Equal(whole, before) || !bytes.Equal(q.Body, counting(n, 60)) {
			t.Fatalf("a body of %d bytes: the answer shares memory", n)
		}
		scribble(b)
		if !bytes.Equal(q.Body, counting(n, 60)) {
			t.Fatalf("a body of %d bytes: the answer follows its bytes", n)
		}
	}
}

func TestSpareRoomIsNotRead(t *testing.T) {
	body, _ := roomy([]byte{1, 2, 3})
	plain := bytesOf(t, impl.Packet{Flow: flow(258, 80), Body: []byte{1, 2, 3}})
	if b := bytesOf(t, impl.Packet{Flow: flow(258, 80), Body: body}); !bytes.Equal(b, plain) {
		t.Fatalf("% x, not % x", b, plain)
	}
	if impl.CheckSum(body) != impl.CheckSum([]byte{1, 2, 3}) {
		t.Fatal("a sum reads behind an odd count")
	}
	mustNotRead(t, "whole only with its spare room", plain[:len(plain)-1])
}

func TestNothingIsKeptFromCallToCall(t *testing.T) {
	p := impl.Packet{Flow: flow(1, 2), Flags: impl.FlSyn, Seq: 3, Body: []byte{4, 5}}
	first := bytesOf(t, p)
	for _, other := range goodPackets() {
		b := bytesOf(t, other)
		impl.PacketRead(b)
		impl.FlowCmp(other.Flow, p.Flow)
	}
	if !bytes.Equal(first, bytesOf(t, p)) || string(impl.PacketText(p)) != "1:2 s #3 +2" || impl.FlowCmp(p.Flow, flow(1, 3)) != -1 {
		t.Fatal("the same call answers something else")
	}
}
