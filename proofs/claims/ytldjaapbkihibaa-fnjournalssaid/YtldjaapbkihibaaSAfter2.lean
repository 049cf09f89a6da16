/- backsAfter: one that goes. -/
import Derived.Test.YtldjaapbkihibaaSAfter
namespace Go.Proofs.Ytldjaapbkihibaa
open Go.ChangeShapes Go.WideShapes Go.ChangeAt Go.RowKit Go.Joins
set_option linter.unusedVariables false
set_option linter.unusedSimpArgs false

theorem there_lt {l : List Bk} {id : Int} (h : thereB l id = true) : placeN l id < l.length := by
  unfold thereB at h; simp at h; exact h.1
theorem del_new (base pl : Nat) (v : Value) (l : List Bk) (w w1 : World) (hv : ownK w base v l) (hb : base ≤ w.heap.size) (hB : Below w.heap.size w w1) (hp : pl < l.length) (hl : l.length ≤ 1000) :
    Calls Try.prog 111 #[v, .int .i64 pl, .int .i64 ((pl : Int) + 1)] w1 fun e w' => ∃ v, e = .returned v ∧ ownK w' base v (l.take pl ++ l.drop (pl + 1)) ∧ Below base w w' := by
  have hv2 : ownK w1 base v l := own_kept hv hB
  rcases hv.2 with ⟨h1, h2⟩ | ⟨g, c, cur, h1, hbg, hc, _⟩
  · omega
  · subst h1
    refine (slicesDelete_any base g c pl l w1 hv2 hp hl).mono ?_
    rintro e w' ⟨v, rfl, h1, h2⟩
    exact ⟨v, rfl, h1, (hB.mono hb).grown h2 (Nat.le_trans hb hB.size) (fun k e => by cases e; exact hbg)⟩

set_option maxRecDepth 100000 in
set_option maxHeartbeats 4000000 in
theorem after_remove (o : Option Addr) (cap : Nat) (l : List Bk) (id : Int) (w : World) (hR : RdK w.heap.size w o l) (hn : o = none → cap = 0) (hl : l.length ≤ 1000) :
    Calls Try.prog 57 #[.slice o l.length cap, .iface 154 (.agg #[.int .i64 id])] w fun e w' => ∃ v, e = .returned (.tuple #[v, .bool (thereB l id)]) ∧ (thereB l id = false → v = .slice none 0 0) ∧ (thereB l id = true → ownK w' w.heap.size v (l.take (placeN l id) ++ l.drop (placeN l id + 1))) ∧ Below w.heap.size w w' := by
  have hp := fun w hR => placeOf_any o cap l id w hR (by omega)
  have HP := hide (there_lt (l := l) (id := id))
  generalize thereB l id = t at hp HP ⊢
  generalize placeN l id = pl at hp HP ⊢
  have hta : ∀ w, Sem.run Try.prog (Instr.typeAssert (.iface 154 (.agg #[.int .i64 id])) 96 150 true) w = .ok (.tuple #[.agg #[.int .i64 0, .int .i64 0], .bool false]) w := fun w => by kernel_rfl
  have htb : ∀ w, Sem.run Try.prog (Instr.typeAssert (.iface 154 (.agg #[.int .i64 id])) 96 151 true) w = .ok (.tuple #[.agg #[.int .i64 0, .int .i64 0], .bool false]) w := fun w => by kernel_rfl
  have htc : ∀ w, Sem.run Try.prog (Instr.typeAssert (.iface 154 (.agg #[.int .i64 id])) 96 153 true) w = .ok (.tuple #[.agg #[.int .i64 0], .bool false]) w := fun w => by kernel_rfl
  have htd : ∀ w, Sem.run Try.prog (Instr.typeAssert (.iface 154 (.agg #[.int .i64 id])) 96 154 true) w = .ok (.tuple #[.agg #[.int .i64 id], .bool true]) w := fun w => by kernel_rfl
  have eW : ∀ args w, (callFunc 169 args).run Try.prog w = .ok (.enter 169 args) w := enters_of Try.func169 (by kernel_rfl) rfl
  cases t
  · go_enter Try.func57, Try.ntmps57
    go_wp2_with fail
    rw [just_so (x := Sem.run Try.prog (method _ _ (.agg #[.int .i64 id]) _) w) (y := Result.ok (169, .agg #[.int .i64 id]) w) ?hm]
    case hm => kernel_rfl
    go_wp2_with (first | (go_at_call 169; refine (whom_any id _).mono ?_; rintro e w1 ⟨rfl, hb0⟩; have hR1 := hide ((RdL.kept hR hb0 (Nat.le_refl _)).le hb0.size); have HB0 := hide hb0; clear hb0) | (go_at_call 108; refine (hp _ hR1.out).mono ?_; rintro e w2 ⟨rfl, hb1⟩; have HB1 := hide hb1; clear hb1))
    go_ret2
    refine ⟨_, rfl, fun _ => rfl, ?_, ?_⟩
    · intro h; cases h
    · exact (HB0.out.trans (HB1.out.mono HB0.out.size)).alloc (Nat.le_trans HB0.out.size HB1.out.size) _
  · have HPL : Hid (pl < l.length) := HP.out rfl
    have z1 : IntKind.i64.wrap ((pl : Int) + 1) = (pl : Int) + 1 := by have := HP.out rfl; rw [IntKind.wrap_i64]; omega
    go_enter Try.func57, Try.ntmps57
    go_wp2_with fail
    rw [just_so (x := Sem.run Try.prog (method _ _ (.agg #[.int .i64 id]) _) w) (y := Result.ok (169, .agg #[.int .i64 id]) w) ?hm]
    case hm => kernel_rfl
    go_wp2_with (first | (go_at_call 169; refine (whom_any id _).mono ?_; rintro e w1 ⟨rfl, hb0⟩; have hR1 := hide ((RdL.kept hR hb0 (Nat.le_refl _)).le hb0.size); have HB0 := hide hb0; clear hb0) | (go_at_call 108; refine (hp _ hR1.out).mono ?_; rintro e w2 ⟨rfl, hb1⟩; have hR2 := hide ((RdL.kept hR1.out hb1 (Nat.le_refl _)).le hb1.size); have HB1 := hide hb1; clear hb1) | (go_at_call 109; refine (cloneBacks_any o cap l _ (rd_alloc hR2.out _) hn (by omega)).mono ?_; rintro e w3 ⟨v3, rfl, hv3, hb3⟩; have HV3 := hide hv3; have HB3 := hide hb3; clear hv3 hb3) | (go_at_call 111; refine (del_new _ pl v3 l w3 _ HV3.out HB3.out.size (((Below.refl w3.heap.size w3).alloc (Nat.le_refl _) _)) HPL.out hl).mono ?_; rintro e w4 ⟨v4, rfl, hv4, hb4⟩; have HV4 := hide hv4; have HB4 := hide hb4; clear hv4 hb4) | (go_at_call 111; refine (del_new _ pl v3 l w3 _ HV3.out HB3.out.size (Below.refl w3.heap.size w3) HPL.out hl).mono ?_; rintro e w4 ⟨v4, rfl, hv4, hb4⟩; have HV4 := hide hv4; have HB4 := hide hb4; clear hv4 hb4))
    go_ret2
    have s1 := HB0.out.size
    have s2 := HB1.out.size
    have B2 : Below w.heap.size w w2 := HB0.out.trans (HB1.out.mono s1)
    have B2a := B2.alloc (Nat.le_trans s1 s2) (.cells #[.int .i64 0, .int .i64 0] 150)
    have s3 := B2a.size
    refine ⟨_, rfl, ?_, fun _ => own_mono HV4.out s3, (B2a.trans (HB3.out.mono s3)).trans (HB4.out.mono s3)⟩
    intro h; cases h

end Go.Proofs.Ytldjaapbkihibaa
