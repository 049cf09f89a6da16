package tests

import (
	"bytes"
	"slices"
	"testing"

	"loop.example/g00607/impl"
)

// spread is a carrier whose lists have spare room behind them, and all of that memory.
type spread struct {
	c     impl.Carrier
	segs  []impl.Seg
	bytes []byte
}

func spreadOut(c impl.Carrier) spread {
	s := spread{c: c}
	s.segs = append(slices.Clone(c.Segs), slices.Repeat([]impl.Seg{hunt(5)}, 30)...)
	s.c.Segs = s.segs[:len(c.Segs)]
	s.c.P.Body, s.bytes = roomy(c.P.Body)
	return s
}

// unlike tells whether anything of its memory is not as in another.
func (s spread) unlike(other spread) bool {
	return !slices.Equal(s.segs, other.segs) || !bytes.Equal(s.bytes, other.bytes) || !sameCarrier(s.c, other.c)
}

// scribbleCarrier writes over all memory of an answer, its spare room too.
func scribbleCarrier(c impl.Carrier) {
	scribble(c.P.Body)
	segs := c.Segs[:cap(c.Segs)]
	for i := range segs {
		segs[i] = impl.Seg{Back: -9, Fn: -9}
	}
}

// carriersForMemory are good ones, at each place, and ones that are none.
func carriersForMemory() []impl.Carrier {
	all := []impl.Carrier{
		{P: opening()},
		{P: opening(), Segs: []impl.Seg{hunt(1), own(2)}},
		{P: opening(), Segs: owned(impl.MaxSegs + 1)},
	}
	for _, n := range []int{1, 2, 3, impl.MaxSegs} {
		for at := range n {
			all = append(all, impl.Carrier{P: opening(), Segs: route(n, n/2), At: at, Stamp: 258})
		}
	}
	return all
}

func TestNoCarrierIsWrittenIntoNorItsSpareRoom(t *testing.T) {
	for _, c := range carriersForMemory() {
		s, kept := spreadOut(c), spreadOut(c)
		impl.CarrierOk(s.c)
		impl.Here(s.c)
		next, _ := impl.Next(s.c)
		pair := impl.HuntPair(s.c)
		b, _ := impl.CarrierBytes(s.c)
		text := impl.CarrierText(s.c)
		if s.unlike(kept) {
			t.Fatalf("%v was written into", c)
		}
		scribbleCarrier(next)
		scribble(b)
		scribble(text)
		for i := range pair[:cap(pair)] {
			pair[:cap(pair)][i] = -9
		}
		if s.unlike(kept) {
			t.Fatalf("%v shares memory with an answer", c)
		}
	}
}

func TestNextSharesNoListWithWhatItCameFrom(t *testing.T) {
	for _, c := range carriersForMemory() {
		s := spreadOut(c)
		next, ok := impl.Next(s.c)
		again, _ := impl.Next(s.c)
		scribbleCarrier(next)
		for i := range s.segs {
			s.segs[i] = hunt(-1)
		}
		scribble(s.bytes)
		want := impl.Carrier{}
		if impl.CarrierOk(c) {
			want = c
		}
		if ok {
			want.At++
		}
		if !sameCarrier(again, want) {
			t.Fatalf("Next of %v: %v follows other memory", c, again)
		}
	}
}

func TestCarrierReadIsNewMemory(t *testing.T) {
	for _, c := range carriersForMemory() {
		plain, ok := impl.CarrierBytes(c)
		if !ok {
			continue
		}
		b, whole := roomy(plain)
		before := bytes.Clone(whole)
		read, ok := impl.CarrierRead(b)
		again, _ := impl.CarrierRead(b)
		if !ok || !bytes.Equal(whole, before) {
			t.Fatalf("% x: reading wrote", plain)
		}
		scribbleCarrier(read)
		if !bytes.Equal(whole, before) || !sameCarrier(again, c) {
			t.Fatalf("% x: the answer shares memory", plain)
		}
		scribble(b)
		if !sameCarrier(again, c) {
			t.Fatalf("% x: the answer follows its bytes", plain)
		}
	}
}

func TestCarriersAreNotReadFromSpareRoom(t *testing.T) {
	for _, c := range carriersForMemory() {
		s := spreadOut(c)
		plain, ok := impl.CarrierBytes(c)
		b, fine := impl.CarrierBytes(s.c)
		if ok != fine || !bytes.Equal(plain, b) || string(impl.CarrierText(c)) != string(impl.CarrierText(s.c)) || !slices.Equal(impl.HuntPair(c), impl.HuntPair(s.c)) {
			t.Fatalf("%v: spare room is seen", c)
		}
		for n := range b {
			mustBeNoCarrier(t, "whole only with its spare room", b[:n])
		}
	}
}

func TestNothingOfACarrierIsKept(t *testing.T) {
	c := impl.Carrier{P: opening(), Segs: []impl.Seg{own(3), hunt(4), hunt(0)}, At: 1, Stamp: 66051}
	first := carrierBytes(t, c)
	for _, other := range goodCarriers() {
		impl.CarrierRead(carrierBytes(t, other))
		impl.CarrierRead(first[:len(first)-1])
		impl.Next(other)
	}
	back, ok := impl.CarrierRead(first)
	if !ok || !sameCarrier(back, c) || !bytes.Equal(first, carrierBytes(t, c)) {
		t.Fatal("the same call answers something else")
	}
}
