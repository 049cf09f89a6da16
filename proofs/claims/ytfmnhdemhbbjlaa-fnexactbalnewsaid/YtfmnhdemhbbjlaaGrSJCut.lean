/- Several texts in one: SJS, SJCut. -/
import Derived.Test.YtfmnhdemhbbjlaaGrTableMath
import Derived.Deep.RegionHeld3
import Derived.Deep.CutRange
import Derived.Test.YtfmnhdemhbbjlaaGrSTurns
/- The model's JournalOk. -/
namespace Go.Proofs.Ytfmnhdemhbbjlaa
open Go.ChangeShapes Go.WideShapes Go.ChangeAt Go.RowKit Go.Joins
set_option linter.unusedVariables false
set_option linter.unusedSimpArgs false

/-- The box of a pool whose lists are the call's own. -/
structure PBox (w : World) (base B : Nat) (key : Int) (l : List Bk) (hs : List Hd) (o : Option Addr) (c : Nat) (oR : Option Addr) (cR : Nat) : Prop where
  box : w.heap[B]? = some (.cells #[.int .i64 key, .slice o l.length c, .slice oR hs.length cR] 28 (0, 0))
  backs : ownK w base (.slice o l.length c) l
  ring : ownL layH 116 w base (.slice oR hs.length cR) hs
theorem PBox.kept {w w' : World} {base B : Nat} {key : Int} {l : List Bk} {hs : List Hd} {o oR : Option Addr} {c cR : Nat} (h : PBox w base B key l hs o c oR cR) (hb : Below w.heap.size w w') : PBox w' base B key l hs o c oR cR :=
  ⟨(hb.block B (Array.getElem?_eq_some_iff.1 h.box).1).trans h.box, own_kept h.backs hb, own_kept h.ring hb⟩
/-- The box set anew. -/
theorem PBox.set {w : World} {base B : Nat} {key : Int} {l : List Bk} {hs : List Hd} {o oR : Option Addr} {c n cR : Nat} {z : Array Value} (hB : w.heap[B]? = some (.cells z 28 (0, 0))) (hz : z.size = 3) (h1 : ownK w base (.slice o l.length c) l) (h2 : ownL layH 116 w base (.slice oR n cR) hs) (hn : n = hs.length) : PBox (setP w B (.int .i64 key) (.slice o l.length c) (.slice oR n cR)) base B key l hs o c oR cR := by
  subst hn
  have b1 := box_put hB 0 (.int .i64 key)
  have b2 := box_put b1 1 (.slice o l.length c)
  have b3 := box_put b2 2 (.slice oR hs.length cR)
  refine ⟨?_, own_putB (own_putB (own_putB h1 hB neP4 0 _) b1 neP4 1 _) b2 neP4 2 _, own_putB (own_putB (own_putB h2 hB neP1 0 _) b1 neP1 1 _) b2 neP1 2 _⟩
  rw [b3]
  match z, hz with
  | ⟨[x, y, u]⟩, _ => rfl
theorem capH {w : World} {base : Nat} {o : Option Addr} {n c : Nat} {hs : List Hd} (h : ownL layH 116 w base (.slice o n c) hs) : o = none → c = 0 := fun e => (InRow.cap (InRow.of h)) n c (by rw [e])
theorem setP_below {C : Nat} {w W : World} {B : Nat} (h : Below C w W) (hB : C ≤ B) (x y z : Value) : Below C w (setP W B x y z) := ((h.setCell (p := ⟨B, 0, none⟩) hB _).setCell (p := ⟨B, 1, none⟩) hB _).setCell (p := ⟨B, 2, none⟩) hB _

theorem finJ {cur W : World} {base B : Nat} {key : Int} {m : List Bk} {hs2 : List Hd} {o2 oR2 : Option Addr} {c2 n2 cR2 : Nat} {z0 z1 z2 : Value} (hZ : W.heap[B]? = some (.cells #[z0, z1, z2] 28 (0, 0))) (hx : Below cur.heap.size cur W) (hB : cur.heap.size ≤ B) (h1 : ownK W base (.slice o2 m.length c2) m) (h2 : ownL layH 116 W base (.slice oR2 n2 cR2) hs2) (hn : n2 = hs2.length) (h3 : hs2.length ≤ 3) :
    ∃ B' hs' o' c' oR' cR', Value.pointer (some ⟨B, 0, none⟩) = .pointer (some ⟨B', 0, none⟩) ∧ Value.bool true = .bool true ∧ Hid (PBox (setP W B (.int .i64 key) (.slice o2 m.length c2) (.slice oR2 n2 cR2)) base B' key m hs' o' c' oR' cR') ∧ Hid (Below cur.heap.size cur (setP W B (.int .i64 key) (.slice o2 m.length c2) (.slice oR2 n2 cR2))) ∧ cur.heap.size ≤ B' ∧ Hid (hs'.length ≤ 3) :=
  ⟨B, hs2, o2, c2, oR2, cR2, rfl, rfl, PBox.set hZ rfl h1 h2 hn, setP_below hx hB _ _ _, hB, h3⟩
theorem finJn {cur W : World} {base : Nat} {key : Int} {m : List Bk} {hs2 : List Hd} {o2 oR2 : Option Addr} {c2 n2 cR2 : Nat} (hx : Below cur.heap.size cur W) (h1 : ownK W base (.slice o2 m.length c2) m) (h2 : ownL layH 116 W base (.slice oR2 n2 cR2) hs2) (hn : n2 = hs2.length) (h3 : hs2.length ≤ 3) :
    ∃ B' hs' o' c' oR' cR', Value.pointer (some ⟨W.heap.size, 0, none⟩) = .pointer (some ⟨B', 0, none⟩) ∧ Value.bool true = .bool true ∧ Hid (PBox (W.alloc (.cells #[.int .i64 key, .slice o2 m.length c2, .slice oR2 n2 cR2] 28)) base B' key m hs' o' c' oR' cR') ∧ Hid (Below cur.heap.size cur (W.alloc (.cells #[.int .i64 key, .slice o2 m.length c2, .slice oR2 n2 cR2] 28))) ∧ cur.heap.size ≤ B' ∧ Hid (hs'.length ≤ 3) := by
  subst hn
  exact ⟨W.heap.size, hs2, o2, c2, oR2, cR2, rfl, rfl, ⟨World.alloc_heap_new W _, World.ownsRow.alloc h1 _, World.ownsRow.alloc h2 _⟩, hx.alloc hx.size _, hx.size, h3⟩

end Go.Proofs.Ytfmnhdemhbbjlaa

/- A journal's own copy in the model; Cut, on both sides. -/
namespace Go.Proofs.Ytfmnhdemhbbjlaa
open Go.ChangeShapes Go.WideShapes Go.ChangeAt Go.RowKit Go.Joins
set_option linter.unusedVariables false
set_option linter.unusedSimpArgs false

theorem own_none2 {α : Type} {L : Lay α} (w : World) (e : TypeId) : ownL L e (w.alloc (.cells #[] e)) w.heap.size (.slice (some ⟨w.heap.size, 0, none⟩) 0 0) ([] : List α) := own_none0 w e
def cutN (m : Jm) (keep : Int) : Int := if keep < (m.l.length : Int) - m.safe then m.safe + keep else m.l.length
def jm0 : Jm := ⟨0, [], 0⟩
def cutB (m : Jm) (keep : Int) : Bool := journalB m.key m.l m.safe && decide (0 ≤ keep)
/-- What Cut tells. -/
def cutM (m : Jm) (keep : Int) : Jm := if cutB m keep = true then ⟨m.key, m.l.take (cutN m keep).toNat, cutN m keep⟩ else jm0
theorem journal_facts {key : Int} {cs : List Cd} {safe : Int} (h : journalB key cs safe = true) : keyB key = true ∧ cs.length ≤ 100 ∧ 0 ≤ safe ∧ safe ≤ (cs.length : Int) := by
  unfold journalB at h
  simp only [Bool.and_eq_true, decide_eq_true_eq] at h
  exact ⟨h.1.1.1.1, h.1.1.1.2, h.1.1.2, h.1.2⟩
theorem cutM_fit {m : Jm} (keep : Int) (h : fitJm m) : (cutM m keep).l.length ≤ 1048576 := by
  unfold cutM
  unfold fitJm at h
  split
  · simp; omega
  · decide
theorem rdC_take {C : Nat} {w : World} {o : Option Addr} {l : List Cd} (n : Nat) (h : RdC C w o l) : RdC C w o (l.take n) := by
  rcases h with h | ⟨b, off, ho, hlt, r⟩
  · left; rw [h]; simp
  · refine .inr ⟨b, off, ho, hlt, fun i hi j hj => ?_⟩
    have h1 : i < n := by simp at hi; omega
    have h2 : i < l.length := by simp at hi; omega
    rw [r i h2 j hj]
    simp [List.getD_eq_getElem?_getD, List.getElem?_take, h1]

set_option maxRecDepth 100000 in
set_option maxHeartbeats 4000000 in
theorem l4ownJ_any (key safe : Int) (o : Option Addr) (cap : Nat) (l : List Cd) (n : Nat) (hnl : n = l.length) (w : World) (hR : RdC w.heap.size w o l) (hn : o = none → cap = 0) (hl : l.length ≤ 1048576) :
    Calls Try.prog 40 #[jrn key (.slice o n cap) safe] w fun e w' => ∃ o2 c2, e = .returned (jrn key (.slice o2 n c2) safe) ∧ ownC w' w.heap.size (.slice o2 n c2) l ∧ Below w.heap.size w w' := by
  obtain ⟨W0, hW0⟩ : ∃ W, ((w.alloc (.cells #[.int .i64 key, .slice o n cap, .int .i64 safe] 24)).alloc (.cells #[.int .i64 0, .slice none 0 0, .int .i64 0] 24)) = W := ⟨_, rfl⟩
  have hb_W0 : Below w.heap.size w W0 := by rw [← hW0]; exact (((Below.refl _ _).alloc (Nat.le_refl _) _).alloc (by simp <;> omega) _)
  have HB := hide hb_W0
  clear hb_W0
  have zz : w.heap.size < W0.heap.size := by rw [← hW0]; simp <;> omega
  have z0 : W0.cell? ⟨w.heap.size, 0, none⟩ = some (.int .i64 key) := by rw [← hW0]; simp [go_sem]
  have z1 : W0.cell? ⟨w.heap.size, 1, none⟩ = some (.slice o n cap) := by rw [← hW0]; simp [go_sem]
  have z2 : W0.cell? ⟨w.heap.size, 2, none⟩ = some (.int .i64 safe) := by rw [← hW0]; simp [go_sem]
  have zr : w.heap.size + 1 < W0.heap.size := by rw [← hW0]; simp
  have r0 : W0.cell? ⟨w.heap.size + 1, 0, none⟩ = some (.int .i64 0) := by rw [← hW0]; simp [go_sem]
  have r1 : W0.cell? ⟨w.heap.size + 1, 1, none⟩ = some (.slice none 0 0) := by rw [← hW0]; simp [go_sem]
  have r2 : W0.cell? ⟨w.heap.size + 1, 2, none⟩ = some (.int .i64 0) := by rw [← hW0]; simp [go_sem]
  have fr0 : W0.frozen? ⟨w.heap.size + 1, 0, none⟩ = false := by rw [← hW0]; simp [go_sem]
  have fr1 : W0.frozen? ⟨w.heap.size + 1, 1, none⟩ = false := by rw [← hW0]; simp [go_sem]
  have fr2 : W0.frozen? ⟨w.heap.size + 1, 2, none⟩ = false := by rw [← hW0]; simp [go_sem]
  have HR := hide (hR.kept HB.out (Nat.le_refl _))
  have HNL := hide hnl
  have hzr := zr
  clear hR hnl
  go_enter Try.func40, Try.ntmps40
  go_wp2
  go_region_held3 (fun w' => w'.cell? ⟨w.heap.size, 0, none⟩ = some (.int .i64 key) ∧ w'.cell? ⟨w.heap.size, 1, none⟩ = some (.slice o n cap) ∧ w'.cell? ⟨w.heap.size, 2, none⟩ = some (.int .i64 safe)) (first | with_reducible exact ⟨k0, k1, k2⟩ | with_reducible exact ⟨z0, z1, z2⟩ | with_reducible exact ⟨setP_cell k0 (Nat.lt_succ_self _), setP_cell k1 (Nat.lt_succ_self _), setP_cell k2 (Nat.lt_succ_self _)⟩ | go_keep) (first | (have own_ : ownL layC 134 (W0.alloc (.cells #[] 134)).drew W0.heap.size (.slice (some ⟨W0.heap.size, 0, none⟩) 0 0) ([] : List Cd) := own_none2 W0 _; have hbv : Below W0.heap.size W0 (W0.alloc (.cells #[] 134)).drew := Below.drew ((Below.refl _ _).alloc (Nat.le_refl _) _); refine step_append_lay appC0 rfl _ _ rfl W0.heap.size (.slice (some ⟨W0.heap.size, 0, none⟩) 0 0) ([] : List Cd) rfl own_ o cap w.heap.size l n HNL.out rfl hn (HR.out.kept hbv (by omega)) (by simp; omega) (by (try simp) <;> omega) ?_; intro v8 w8 ho8 hg8 hn8; have hp8 : Below W0.heap.size W0 w8 := hbv.grown hg8 (by (try simp) <;> omega) (fun k h => by simp [Value.ownBlock] at h; omega); have sp8 := hp8.size; obtain ⟨o8, c8, e8, _⟩ := ownL.open (L := layC) ho8; subst e8; have HO8 : Hid (ownC w8 W0.heap.size (.slice o8 l.length c8) l) := ho8; have k0 := bC hp8 z0 zz; have k1 := bC hp8 z1 zz; have k2 := bC hp8 z2 zz; have rr0 := bC hp8 r0 zr; have rr1 := bC hp8 r1 zr; have rr2 := bC hp8 r2 zr; have frr0 := bF hp8 fr0 zr; have frr1 := bF hp8 fr1 zr; have frr2 := bF hp8 fr2 zr; have HP8 := hide hp8; clear ho8 hg8 hn8 own_ hbv hp8))
  go_wp2
  have hnn := HNL.out
  skip
  refine bodyPost_ret (v := jrn key (.slice o8 l.length c8) safe) (by simp [results, Try.results40, go_sem, rr0, rr1, rr2]) rfl ⟨o8, c8, by rw [hnn], ?_, setP_below (HB.out.trans (HP8.out.mono HB.out.size)) (Nat.le_succ _) _ _ _⟩
  rw [hnn]
  exact own_mono (own_low (own_low (own_low HO8.out hzr 0 _) hzr 1 _) hzr 2 _) (by omega)

/-- A journal whose list has room for itself; one of nothing has none. -/
def roomJm (v : Value) : Prop := ∃ k o n c s, v = jrn k (.slice o n c) s ∧ n ≤ c ∧ (o = none → c = 0)
theorem InJm.room {lo hi : Nat} {w : World} {v : Value} {m : Jm} (h : InJm lo hi w v m) : roomJm v := by
  obtain ⟨vl, e, h1⟩ := h
  rcases h1.1.2 with ⟨e1, e2⟩ | ⟨g, cap, cur, e1, hb, hc, h4, h5, h6, h7⟩
  · exact ⟨_, none, 0, 0, _, by rw [e, e1], Nat.le_refl _, fun _ => rfl⟩
  · exact ⟨_, some ⟨g, 0, none⟩, m.l.length, cap, _, by rw [e, e1], h4, fun h => by cases h⟩
theorem roomJm.two {k s : Int} {o : Option Addr} {n c : Nat} (h : roomJm (jrn k (.slice o n c) s)) : n ≤ c ∧ (o = none → c = 0) := by
  obtain ⟨k', o', n', c', s', e, h1, h2⟩ := h
  injection e with e
  simp at e
  obtain ⟨_, ⟨e2, e3, e4⟩, _⟩ := e
  subst e2 e3 e4
  exact ⟨h1, h2⟩
def cutI (l : List Cd) (safe keep : Int) : Int := if keep < (l.length : Int) - safe then safe + keep else l.length
theorem own_putJ {w : World} {base s n : Nat} {v : Value} {xs : List Value} {B : Nat} {c : Array Value} (h : w.ownsRow base 134 s v n xs) (hB : w.heap[B]? = some (.cells c 24 (0, 0))) (j : Nat) (u : Value) : (w.setCell ⟨B, j, none⟩ u).ownsRow base 134 s v n xs :=
  World.ownsRow.kept h (grown_set w B j u) (own_box h hB (by decide))
theorem finC {cur W : World} {B : Nat} {key : Int} {o2 : Option Addr} {n c2 : Nat} {l : List Cd} {z0 z1 z2 : Value} (hZ : W.heap[B]? = some (.cells #[z0, z1, z2] 24 (0, 0))) (hx : Below cur.heap.size cur W) (hB : cur.heap.size ≤ B) (ho : ownC W cur.heap.size (.slice o2 n c2) l) :
    ∃ B' o' c', Value.pointer (some ⟨B, 0, none⟩) = .pointer (some ⟨B', 0, none⟩) ∧ Hid ((setP W B (.int .i64 key) (.slice o2 n c2) (.int .i64 0)).heap[B']? = some (.cells #[.int .i64 key, .slice o' n c', .int .i64 0] 24 (0, 0))) ∧ Hid (Below cur.heap.size cur (setP W B (.int .i64 key) (.slice o2 n c2) (.int .i64 0))) ∧ cur.heap.size ≤ B' ∧ Hid (ownC (setP W B (.int .i64 key) (.slice o2 n c2) (.int .i64 0)) cur.heap.size (.slice o' n c') l) := by
  have h1 := box_put hZ 0 (.int .i64 key)
  have h2 := box_put h1 1 (.slice o2 n c2)
  have h3 := box_put h2 2 (.int .i64 0)
  exact ⟨B, o2, c2, rfl, h3, setP_below hx hB _ _ _, hB, own_putJ (own_putJ (own_putJ ho hZ 0 _) h1 1 _) h2 2 _⟩
theorem finCn {cur W : World} {key : Int} {o2 : Option Addr} {n c2 : Nat} {l : List Cd} (hx : Below cur.heap.size cur W) (ho : ownC W cur.heap.size (.slice o2 n c2) l) :
    ∃ B' o' c', Value.pointer (some ⟨W.heap.size, 0, none⟩) = .pointer (some ⟨B', 0, none⟩) ∧ Hid ((W.alloc (.cells #[.int .i64 key, .slice o2 n c2, .int .i64 0] 24)).heap[B']? = some (.cells #[.int .i64 key, .slice o' n c', .int .i64 0] 24 (0, 0))) ∧ Hid (Below cur.heap.size cur (W.alloc (.cells #[.int .i64 key, .slice o2 n c2, .int .i64 0] 24))) ∧ cur.heap.size ≤ B' ∧ Hid (ownC (W.alloc (.cells #[.int .i64 key, .slice o2 n c2, .int .i64 0] 24)) cur.heap.size (.slice o' n c') l) :=
  ⟨W.heap.size, o2, c2, rfl, World.alloc_heap_new W _, hx.alloc hx.size _, hx.size, World.ownsRow.alloc ho _⟩
end Go.Proofs.Ytfmnhdemhbbjlaa

