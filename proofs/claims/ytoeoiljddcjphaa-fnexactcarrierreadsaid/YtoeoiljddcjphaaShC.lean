/- What is carried, as a shape: how it reads, what owns its memory, and the laws' own helpers over it. -/
import Derived.Test.YtoeoiljddcjphaaShB
import Derived.Test.YtoeoiljddcjphaaSNext3
import Derived.Test.YtoeoiljddcjphaaLMarkP
import Derived.Test.YtoeoiljddcjphaaLMarkG
namespace Go.Proofs.Ytoeoiljddcjphaa
open Go.ChangeShapes Go.WideShapes Go.ChangeAt Go.RowKit Go.Joins
set_option linter.unusedVariables false
set_option linter.unusedSimpArgs false

abbrev InG := InL layG 35
theorem InG.of {w : World} {base : Nat} {v : Value} {l : List (Int × Int)} (h : ownG w base v l) : InG base w.heap.size w v l := InRow.of (ownG_lay.1 h)
theorem RdG_rd {w : World} {o : Option Addr} {l : List (Int × Int)} : RdL layG w.heap.size w o l ↔ RdG w o l := by
  constructor
  · rintro (h | ⟨b, off, ho, hb, r⟩)
    · exact .inl h
    · exact .inr ⟨b, off, ho, hb, fun i hi => ⟨r i hi 0 (by decide), r i hi 1 (by decide)⟩⟩
  · exact RdG.lay
def RdCm (C : Nat) (w : World) (v : Value) (m : Cm) : Prop := ∃ vl vg, v = crr m.a m.b m.f m.s vl vg m.pl m.st ∧ RdV layB C w vl m.l ∧ RdV layG C w vg m.g
def InCm (lo hi : Nat) (w : World) (v : Value) (m : Cm) : Prop := ∃ vl vg, v = crr m.a m.b m.f m.s vl vg m.pl m.st ∧ InB lo hi w vl m.l ∧ InG lo hi w vg m.g
theorem RdCm.kept {C D : Nat} {w w' : World} {v : Value} {m : Cm} (h : RdCm C w v m) (hb : Below D w w') (hc : C ≤ D) : RdCm C w' v m := by
  obtain ⟨vl, vg, e, h1, h2⟩ := h
  exact ⟨vl, vg, e, h1.kept hb hc, h2.kept hb hc⟩
theorem RdCm.le {C D : Nat} {w : World} {v : Value} {m : Cm} (h : RdCm C w v m) (hc : C ≤ D) : RdCm D w v m := by
  obtain ⟨vl, vg, e, h1, h2⟩ := h
  exact ⟨vl, vg, e, h1.le hc, h2.le hc⟩
theorem InCm.rd {lo hi : Nat} {w : World} {v : Value} {m : Cm} (h : InCm lo hi w v m) : RdCm hi w v m := by
  obtain ⟨vl, vg, e, h1, h2⟩ := h
  exact ⟨vl, vg, e, h1.rd, h2.rd⟩
theorem InCm.step {a b lo hi : Nat} {w w' : World} {v : Value} {m : Cm} (h : InCm a b w v m) (s : Stp lo hi w w') (hd : hi ≤ a ∨ b ≤ lo) : InCm a b w' v m := by
  obtain ⟨vl, vg, e, h1, h2⟩ := h
  exact ⟨vl, vg, e, h1.step s hd, h2.step s hd⟩
theorem InCm.mono {lo hi lo' hi' : Nat} {w : World} {v : Value} {m : Cm} (h : InCm lo hi w v m) (h1 : lo' ≤ lo) (h2 : hi ≤ hi') : InCm lo' hi' w v m := by
  obtain ⟨vl, vg, e, q1, q2⟩ := h
  exact ⟨vl, vg, e, q1.mono h1 h2, q2.mono h1 h2⟩
theorem InCm.of {w : World} {base : Nat} {v : Value} {m : Cm} (h : ownCm w base v m) : InCm base w.heap.size w v m := by
  obtain ⟨vl, vg, e, h1, h2⟩ := h
  exact ⟨vl, vg, e, InB.of h1, InG.of h2⟩
/-- Its lists of nothing have no room. -/
def capCm (v : Value) : Prop := ∃ a b f s vl vg pl st, v = crr a b f s vl vg pl st ∧ capV vl ∧ capV vg
theorem InCm.cap {lo hi : Nat} {w : World} {v : Value} {m : Cm} (h : InCm lo hi w v m) : capCm v := by
  obtain ⟨vl, vg, e, h1, h2⟩ := h
  exact ⟨_, _, _, _, vl, vg, _, _, e, InRow.cap h1, InRow.cap h2⟩
theorem capCm.two {a b f s : Int} {o og : Option Addr} {n c ng cg : Nat} {pl st : Int} (h : capCm (crr a b f s (.slice o n c) (.slice og ng cg) pl st)) : (o = none → c = 0) ∧ (og = none → cg = 0) := by
  obtain ⟨a', b', f', s', vl, vg, pl', st', e, h1, h2⟩ := h
  injection e with e
  simp at e
  obtain ⟨_, _, _, _, e5, e6, _, _⟩ := e
  exact ⟨fun h => h1 n c (by rw [← e5, h]), fun h => h2 ng cg (by rw [← e6, h])⟩
/-- It is not too great, and its bytes are bytes. -/
def fitCm (m : Cm) : Prop := m.l.length + m.g.length ≤ 1048576 ∧ isB m.l

theorem szCarrier_sh (v : Value) (m : Cm) (C : Nat) (w : World) (hR : RdCm C w v m) (hl : m.l.length ≤ maxLen) (hg : m.g.length ≤ maxLen) :
    Calls Try.prog 50 #[v, .int .i64 1048576] w fun e w' => (∃ n : Int, e = .returned (.int .i64 n) ∧ (m.l.length + m.g.length ≤ 1048576 → 0 ≤ n) ∧ (¬ m.l.length + m.g.length ≤ 1048576 → n < 0) ∧ -1 ≤ n ∧ n ≤ 1048576) ∧ Below w.heap.size w w' := by
  obtain ⟨vl, vg, rfl, ⟨o, c, rfl, _⟩, ⟨og, cg, rfl, _⟩⟩ := hR
  refine (szCarrier_any m.a m.b m.f m.s o og m.l.length c m.g.length cg m.pl m.st 1048576 w hl hg (by decide) (by decide)).mono ?_
  rintro e w' ⟨rfl, hb⟩
  refine ⟨⟨_, rfl, ?_, ?_, ?_, ?_⟩, hb⟩
  · intro h; split <;> omega
  · intro h; split <;> omega
  · split <;> omega
  · split <;> omega
theorem toCarrier_sh (v : Value) (m : Cm) (w : World) (hR : RdCm w.heap.size w v m) (hf : fitCm m) :
    Calls Try.prog 52 #[v] w fun e w' => ∃ v', e = .returned v' ∧ InCm w.heap.size w'.heap.size w' v' m ∧ Below w.heap.size w w' := by
  obtain ⟨vl, vg, rfl, ⟨o, c, rfl, r⟩, ⟨og, cg, rfl, rg⟩⟩ := hR
  have h1 := hf.1
  refine (toCarrier_any m.a m.b m.f m.s o og c cg m.l m.g m.pl m.st w (RdB_rd.1 r) hf.2 (by omega) (RdG_rd.1 rg) (by omega)).mono ?_
  rintro e w' ⟨k, kg, rfl, h1, h2, _, hb⟩
  exact ⟨_, rfl, ⟨_, _, rfl, InB.of h1, InG.of h2⟩, hb⟩
theorem eqCarrier_sh (v1 v2 : Value) (m : Cm) (w : World) (h1 : RdCm w.heap.size w v1 m) (h2 : RdCm w.heap.size w v2 m) (hl : m.l.length ≤ 1048576) (hg : m.g.length ≤ 1048576) :
    Calls Try.prog 18 #[v1, v2] w fun e w' => e = .returned (.bool true) ∧ Below w.heap.size w w' := by
  obtain ⟨vl, vg, rfl, ⟨o, c, rfl, r⟩, ⟨og, cg, rfl, rg⟩⟩ := h1
  obtain ⟨vl2, vg2, rfl, ⟨o2, c2, rfl, r2⟩, ⟨og2, cg2, rfl, rg2⟩⟩ := h2
  exact eqCarrier_same m.a m.b m.f m.s o o2 og og2 c c2 cg cg2 m.l m.g m.pl m.st w (RdB_rd.1 r) (RdB_rd.1 r2) hl (RdG_rd.1 rg) (RdG_rd.1 rg2) hg

/-- The marks of a carrier. -/
def mkCm (k : Int) (m : Cm) : Cm := { m with l := markL k m.l.length, g := mkL mkSeg 2 (k + m.l.length) m.g.length }
theorem u8Seg : (5 : TypeId) ≠ 35 := by decide

set_option maxHeartbeats 1000000 in
theorem markCarrier_sh (lo hi : Nat) (v : Value) (m : Cm) (k : Int) (w : World) (hv : InCm lo hi w v m) (h0 : 0 ≤ k) (h1 : k ≤ 10000000) (hl : m.l.length ≤ 1048576) (hg : m.g.length ≤ 1048576) :
    Calls Try.prog 21 #[v, .int .i64 k] w fun e w' => e = .returned (.int .i64 (k + m.l.length + 2 * m.g.length)) ∧ InCm lo hi w' v (mkCm k m) ∧ Stp lo hi w w' := by
  obtain ⟨vl, vg, rfl, iv, ig⟩ := hv
  have sA : ∀ o : Obj, Stp lo hi w (w.alloc o) := fun o => Stp.of ((Below.refl _ _).alloc (Nat.le_refl _) o)
  have iv1 := fun o : Obj => (⟨World.ownsRow.alloc iv.1 o, iv.2⟩ : InB lo hi (w.alloc o) vl m.l)
  have ig1 := fun o : Obj => (⟨World.ownsRow.alloc ig.1 o, ig.2⟩ : InG lo hi (w.alloc o) vg m.g)
  obtain ⟨og, cg, hge, _⟩ := ig.rd
  obtain ⟨ol, cl, hle, _⟩ := iv.rd
  have HS := hide sA
  have HV := hide iv1
  have HG := hide ig1
  clear sA iv1 ig1
  have HIV := hide iv
  have HIG := hide ig
  clear iv ig
  subst hge hle
  go_enter Try.func21, Try.ntmps21
  go_wp2_with fail
  have s1 := HS.out (.cells #[.int .i64 m.a, .int .i64 m.b, .int .i64 m.f, .int .i64 m.s, .slice ol m.l.length cl, .slice og m.g.length cg, .int .i64 m.pl, .int .i64 m.st] 29)
  have i1 := HV.out (.cells #[.int .i64 m.a, .int .i64 m.b, .int .i64 m.f, .int .i64 m.s, .slice ol m.l.length cl, .slice og m.g.length cg, .int .i64 m.pl, .int .i64 m.st] 29)
  have g1 := HG.out (.cells #[.int .i64 m.a, .int .i64 m.b, .int .i64 m.f, .int .i64 m.s, .slice ol m.l.length cl, .slice og m.g.length cg, .int .i64 m.pl, .int .i64 m.st] 29)
  have bx := World.alloc_heap_new w (.cells #[.int .i64 m.a, .int .i64 m.b, .int .i64 m.f, .int .i64 m.s, .slice ol m.l.length cl, .slice og m.g.length cg, .int .i64 m.pl, .int .i64 m.st] 29)
  have hz : w.heap.size < (w.alloc (.cells #[.int .i64 m.a, .int .i64 m.b, .int .i64 m.f, .int .i64 m.s, .slice ol m.l.length cl, .slice og m.g.length cg, .int .i64 m.pl, .int .i64 m.st] 29)).heap.size := by simp
  generalize w.alloc (.cells #[.int .i64 m.a, .int .i64 m.b, .int .i64 m.f, .int .i64 m.s, .slice ol m.l.length cl, .slice og m.g.length cg, .int .i64 m.pl, .int .i64 m.st] 29) = w1 at *
  refine (markPacket_any lo m.a m.b m.f m.s _ m.l k w1 (ownB_lay.2 i1.1) h0 (by omega) hl).mono ?_
  rintro e w2 ⟨rfl, hown, hgr⟩
  have s2 : Stp lo hi w1 w2 := Stp.grown hgr (fun b e => ⟨(i1.1.lt b e).1, i1.2 b e⟩)
  have nb : ∀ b, (Value.slice ol m.l.length cl).ownBlock = some b → b < w.heap.size := fun b e => (HIV.out.1.lt b e).2
  replace bx := (hgr.block w.heap.size hz (fun e => by have := nb _ e.symm; omega)).trans bx
  have g2 : InG lo hi w2 (.slice og m.g.length cg) m.g := InRow.kept g1 hgr (own_apart0 g1.1 i1.1 (Ne.symm u8Seg))
  have i2 : InB lo hi w2 (.slice ol m.l.length cl) (markL k m.l.length) := ⟨ownB_lay.1 hown, i1.2⟩
  have c5 : w2.cell? ⟨w.heap.size, 5, none⟩ = some (.slice og m.g.length cg) := block_cell bx 5 _ rfl
  have H := hide (And.intro i2 (And.intro g2 (s1.trans s2)))
  clear i1 g1 s1 s2 hown hgr HS HV HG HIV HIG nb bx i2 g2
  go_wp2_with fail
  refine (markSegS_any lo _ m.g (k + m.l.length) w2 H.out.2.1.1 (by omega) (by omega) hg).mono ?_
  rintro e w3 ⟨rfl, ho3, hg3⟩
  have H3 : Hid (InCm lo hi w3 (crr m.a m.b m.f m.s (.slice ol m.l.length cl) (.slice og m.g.length cg) m.pl m.st) (mkCm k m)) := ⟨_, _, rfl, InRow.kept H.out.1 hg3 (own_apart0 H.out.1.1 H.out.2.1.1 u8Seg), ⟨ho3, H.out.2.1.2⟩⟩
  have S3 : Hid (Stp lo hi w w3) := H.out.2.2.trans (Stp.grown hg3 (fun b e => ⟨(H.out.2.1.1.lt b e).1, H.out.2.1.2 b e⟩))
  clear ho3 hg3 H c5
  go_wp2
  go_ret
  exact ⟨rfl, H3.out, S3.out⟩

set_option maxHeartbeats 1000000 in
theorem heldCarrier_sh (v : Value) (m : Cm) (k : Int) (w : World) (hR : RdCm w.heap.size w v (mkCm k m)) (h0 : 0 ≤ k) (h1 : k ≤ 10000000) (hl : m.l.length ≤ 1048576) (hg : m.g.length ≤ 1048576) :
    Calls Try.prog 22 #[v, .int .i64 k] w fun e w' => e = .returned (.int .i64 (k + m.l.length + 2 * m.g.length)) ∧ Below w.heap.size w w' := by
  obtain ⟨vl, vg, rfl, ⟨o, c, rfl, r⟩, ⟨og, cg, rfl, rg⟩⟩ := hR
  have e1 : (mkCm k m).l.length = m.l.length := markL_length _ _
  have e2 : (mkCm k m).g.length = m.g.length := mkL_length _ _ _ _
  rw [e1, e2]
  have hb0 : Below w.heap.size w (w.alloc (.cells #[.int .i64 m.a, .int .i64 m.b, .int .i64 m.f, .int .i64 m.s, .slice o m.l.length c, .slice og m.g.length cg, .int .i64 m.pl, .int .i64 m.st] 29)) := (Below.refl _ _).alloc (Nat.le_refl _) _
  have bx := World.alloc_heap_new w (.cells #[.int .i64 m.a, .int .i64 m.b, .int .i64 m.f, .int .i64 m.s, .slice o m.l.length c, .slice og m.g.length cg, .int .i64 m.pl, .int .i64 m.st] 29)
  have hz : w.heap.size < (w.alloc (.cells #[.int .i64 m.a, .int .i64 m.b, .int .i64 m.f, .int .i64 m.s, .slice o m.l.length c, .slice og m.g.length cg, .int .i64 m.pl, .int .i64 m.st] 29)).heap.size := by simp
  have hR0 : Rd w o (markL k m.l.length) := RdB_rd.1 r
  have hG0 : RdL layG w.heap.size w og (mkL mkSeg 2 (k + m.l.length) m.g.length) := rg
  clear r rg e1 e2
  show Calls Try.prog 22 #[crr m.a m.b m.f m.s (.slice o m.l.length c) (.slice og m.g.length cg) m.pl m.st, .int .i64 k] w _
  go_enter Try.func22, Try.ntmps22
  go_wp2_with fail
  generalize w.alloc (.cells #[.int .i64 m.a, .int .i64 m.b, .int .i64 m.f, .int .i64 m.s, .slice o m.l.length c, .slice og m.g.length cg, .int .i64 m.pl, .int .i64 m.st] 29) = w1 at *
  refine (heldPacket_any m.a m.b m.f m.s o c m.l.length k w1 (hR0.kept hb0) h0 (by omega) hl).mono ?_
  rintro e w2 ⟨rfl, hb2⟩
  replace bx := (hb2.block _ hz).trans bx
  have c5 : w2.cell? ⟨w.heap.size, 5, none⟩ = some (.slice og m.g.length cg) := block_cell bx 5 _ rfl
  have HB := hide (hb0.trans (hb2.mono hb0.size))
  have hn : (0 : Int) ≤ k + m.l.length := by omega
  clear bx hb0 hb2 hz
  go_wp2_with fail
  refine (heldSegS_any og cg m.g.length w.heap.size (k + m.l.length) w2 (hG0.kept HB.out (Nat.le_refl _)) (by omega) (by omega) hg).mono ?_
  rintro e _ ⟨rfl, rfl⟩
  have hn2 : (0 : Int) ≤ k + m.l.length + 2 * m.g.length := by omega
  go_wp2
  go_ret
  exact ⟨rfl, HB.out⟩

end Go.Proofs.Ytoeoiljddcjphaa
