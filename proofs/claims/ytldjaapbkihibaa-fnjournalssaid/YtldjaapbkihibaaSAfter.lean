/- backsAfter: what a command makes of those who serve. -/
import Derived.Test.YtldjaapbkihibaaSInsert2
import Derived.Test.YtldjaapbkihibaaSDeed
namespace Go.Proofs.Ytldjaapbkihibaa
open Go.ChangeShapes Go.WideShapes Go.ChangeAt Go.RowKit Go.Joins
set_option linter.unusedVariables false
set_option linter.unusedSimpArgs false

theorem rd_alloc {w : World} {o : Option Addr} {l : List Bk} (h : RdK w.heap.size w o l) (ob : Obj) : RdK (w.alloc ob).heap.size (w.alloc ob) o l :=
  (RdL.kept h ((Below.refl w.heap.size w).alloc (Nat.le_refl _) ob) (Nat.le_refl _)).le (by simp)
theorem just_so {α : Type} {x y : α} (h : x = y) : x = y := h

theorem whom_any (id : Int) (w : World) : Calls Try.prog 169 #[.agg #[.int .i64 id]] w fun e w' => e = .returned (.int .i64 id) ∧ Below w.heap.size w w' := by
  have hB : Below w.heap.size w w := Below.refl _ _
  go_enter Try.func169, Try.ntmps169
  go_wp2
  go_ret
  exact ⟨rfl, by (repeat (first | with_reducible exact hB | with_reducible exact Below.refl _ _ | with_reducible refine Below.drew ?_ | with_reducible refine below_drewN ?_ _ | with_reducible refine Below.alloc ?_ ?_ _ | with_reducible refine Below.setCell ?_ ?_ _ | (focus (simp; done)) | (focus (simp; omega)) | omega))⟩

theorem ins_new (base pl : Nat) (v : Value) (l : List Bk) (x y : Int) (z : Bool) (w : World) (A : Obj) (hv : ownK w base v l) (hb : base ≤ w.heap.size) (hp : pl ≤ l.length) (hl : l.length ≤ 1000) :
    Calls Try.prog 110 #[v, .int .i64 pl, .slice (some ⟨w.heap.size + 1, 0, none⟩) 1 1] ((w.alloc A).alloc (.cells #[.int .i64 x, .int .i64 y, .bool z] 39)) fun e w' => ∃ v, e = .returned v ∧ ownK w' base v (l.take pl ++ (x, y, z) :: l.drop pl) ∧ Below base w w' := by
  have hs1 : (w.alloc A).heap.size = w.heap.size + 1 := by simp
  have hB : Below w.heap.size w ((w.alloc A).alloc (.cells #[.int .i64 x, .int .i64 y, .bool z] 39)) := ((Below.refl w.heap.size w).alloc (Nat.le_refl _) A).alloc (by omega) _
  have hv2 : ownK ((w.alloc A).alloc (.cells #[.int .i64 x, .int .i64 y, .bool z] 39)) base v l := own_kept hv hB
  have hx := heap_alloc_new (w.alloc A) (.cells #[.int .i64 x, .int .i64 y, .bool z] 39)
  rw [hs1] at hx
  obtain ⟨o, cap, e, hne⟩ : ∃ o cap, v = .slice o l.length cap ∧ ∀ g, o = some ⟨g, 0, none⟩ → w.heap.size + 1 ≠ g := by
    rcases hv.2 with ⟨h1, h2⟩ | ⟨g, c, cur, h1, _, hc, _⟩
    · exact ⟨none, 0, by rw [h1, h2], fun g e => by cases e⟩
    · refine ⟨_, c, h1, fun g' e => ?_⟩
      cases e
      have : g < w.heap.size := by
        rcases Nat.lt_or_ge g w.heap.size with h | h
        · exact h
        · rw [Array.getElem?_eq_none h] at hc; cases hc
      omega
  subst e
  refine (slicesInsert_any base cap (w.heap.size + 1) pl o l (x, y, z) _ hv2 (Nat.le_trans hb hB.size) hx hne hp hl).mono ?_
  rintro e w' ⟨v, rfl, h1, h2⟩
  exact ⟨v, rfl, h1, (hB.mono hb).trans h2⟩

set_option maxRecDepth 100000 in
set_option maxHeartbeats 4000000 in
theorem after_add (o : Option Addr) (cap : Nat) (l : List Bk) (id g : Int) (w : World) (hR : RdK w.heap.size w o l) (hn : o = none → cap = 0) (hl : l.length ≤ 1000) :
    Calls Try.prog 57 #[.slice o l.length cap, .iface 150 (.agg #[.int .i64 id, .int .i64 g])] w fun e w' => ∃ v, e = .returned (.tuple #[v, .bool (!thereB l id)]) ∧ (thereB l id = true → v = .slice none 0 0) ∧ (thereB l id = false → ownK w' w.heap.size v (l.take (placeN l id) ++ (id, g, false) :: l.drop (placeN l id))) ∧ Below w.heap.size w w' := by
  have hp := fun w hR => placeOf_any o cap l id w hR (by omega)
  have HP := hide (placeN_le l id)
  generalize thereB l id = t at hp ⊢
  generalize placeN l id = pl at hp HP ⊢
  have hta : ∀ w, Sem.run Try.prog (Instr.typeAssert (.iface 150 (.agg #[.int .i64 id, .int .i64 g])) 96 150 true) w = .ok (.tuple #[.agg #[.int .i64 id, .int .i64 g], .bool true]) w := fun w => by kernel_rfl
  have eW : ∀ args w, (callFunc 169 args).run Try.prog w = .ok (.enter 169 args) w := enters_of Try.func169 (by kernel_rfl) rfl
  cases t
  · go_enter Try.func57, Try.ntmps57
    go_wp2_with fail
    rw [just_so (x := Sem.run Try.prog (method _ _ (.agg #[.int .i64 id, .int .i64 g]) _) w) (y := Result.ok (169, .agg #[.int .i64 id]) w) ?hm]
    case hm => kernel_rfl
    go_wp2_with (first | (go_at_call 169; refine (whom_any id _).mono ?_; rintro e w1 ⟨rfl, hb0⟩; have hR1 := hide ((RdL.kept hR hb0 (Nat.le_refl _)).le hb0.size); have HB0 := hide hb0; clear hb0) | (go_at_call 108; refine (hp _ hR1.out).mono ?_; rintro e w2 ⟨rfl, hb1⟩; have hR2 := hide ((RdL.kept hR1.out hb1 (Nat.le_refl _)).le hb1.size); have HB1 := hide hb1; clear hb1) | (go_at_call 109; refine (cloneBacks_any o cap l _ (rd_alloc hR2.out _) hn (by omega)).mono ?_; rintro e w3 ⟨v3, rfl, hv3, hb3⟩; have HV3 := hide hv3; have HB3 := hide hb3; clear hv3 hb3) | (go_at_call 110; refine (ins_new _ pl v3 l id g false w3 _ HV3.out HB3.out.size HP.out hl).mono ?_; rintro e w4 ⟨v4, rfl, hv4, hb4⟩; have HV4 := hide hv4; have HB4 := hide hb4; clear hv4 hb4))
    go_ret2
    have s1 := HB0.out.size
    have s2 := HB1.out.size
    have B2 : Below w.heap.size w w2 := HB0.out.trans (HB1.out.mono s1)
    have B2a := B2.alloc (Nat.le_trans s1 s2) (.cells #[.int .i64 id, .int .i64 g] 150)
    have s3 := B2a.size
    refine ⟨_, rfl, ?_, fun _ => own_mono HV4.out s3, (B2a.trans (HB3.out.mono s3)).trans (HB4.out.mono s3)⟩
    intro h; cases h
  · go_enter Try.func57, Try.ntmps57
    go_wp2_with fail
    rw [just_so (x := Sem.run Try.prog (method _ _ (.agg #[.int .i64 id, .int .i64 g]) _) w) (y := Result.ok (169, .agg #[.int .i64 id]) w) ?hm]
    case hm => kernel_rfl
    go_wp2_with (first | (go_at_call 169; refine (whom_any id _).mono ?_; rintro e w1 ⟨rfl, hb0⟩; have hR1 := hide ((RdL.kept hR hb0 (Nat.le_refl _)).le hb0.size); have HB0 := hide hb0; clear hb0) | (go_at_call 108; refine (hp _ hR1.out).mono ?_; rintro e w2 ⟨rfl, hb1⟩; have HB1 := hide hb1; clear hb1))
    go_ret2
    refine ⟨_, rfl, fun _ => rfl, ?_, ?_⟩
    · intro h; cases h
    · exact (HB0.out.trans (HB1.out.mono HB0.out.size)).alloc (Nat.le_trans HB0.out.size HB1.out.size) _

end Go.Proofs.Ytldjaapbkihibaa
