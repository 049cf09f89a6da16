/- Who served at first and behind each command: the program's turns; its JournalOk. -/
import Derived.Test.YtldjaapbkihibaaSAfter3
import Derived.Test.YtldjaapbkihibaaJMath
import Derived.Test.YtldjaapbkihibaaSTab
import Derived.Test.YtldjaapbkihibaaGrShJ
namespace Go.Proofs.Ytldjaapbkihibaa
open Go.ChangeShapes Go.WideShapes Go.ChangeAt Go.RowKit Go.Joins
set_option linter.unusedVariables false
set_option linter.unusedSimpArgs false

theorem infoBackS : (Try.prog.info? 23).map (fun i => (i.zero, i.size, i.bytes)) = some (some (.slice none 0 0), 1, 24) := by kernel_rfl
theorem appHB : AppOk layH 118 23 := ⟨Try.underlying118, ⟨_, _, infoBackS, rfl, by decide⟩, by decide, fun a u hu => by
  simp [layH] at hu; subst hu; rfl⟩
theorem backNe : (39 : TypeId) ≠ 23 := by decide
/-- Rows of those who served: each its own. -/
structure Served (S : Nat → List Bk) (k : Nat) (w : World) (base : Nat) (hs : List Hd) : Prop where
  len : hs.length = k
  row : ∀ i, i < k → ownK w base (hv hs i) (S i)
theorem Served.kept {S : Nat → List Bk} {k : Nat} {w w' : World} {base : Nat} {hs : List Hd} (h : Served S k w base hs) (hb : Below w.heap.size w w') : Served S k w' base hs :=
  ⟨h.len, fun i hi => own_kept (h.row i hi) hb⟩
theorem Served.other {S : Nat → List Bk} {k : Nat} {w w' : World} {base b2 s2 n2 : Nat} {hs : List Hd} {v2 : Value} {x2 : List Value} (h : Served S k w base hs) (h2 : w.ownsRow b2 23 s2 v2 n2 x2) (hg : w.grownBy w' v2.ownBlock) : Served S k w' base hs :=
  ⟨h.len, fun i hi => (h.row i hi).kept hg (own_apart (h.row i hi) h2 backNe)⟩
theorem Served.snoc {S : Nat → List Bk} {k : Nat} {w : World} {base : Nat} {hs : List Hd} {o : Option Addr} {m c : Nat} (h : Served S k w base hs) (hr : ownK w base (.slice o m c) (S k)) : Served S (k + 1) w base (hs ++ [(o, m, c)]) := by
  have hl := h.len
  refine ⟨by simp [hl], fun i hi => ?_⟩
  rcases Nat.lt_succ_iff_lt_or_eq.1 hi with h' | h'
  · rw [hv_left (by omega)]; exact h.row i h'
  · subst h'; rw [← hl, hv_last, hl]; exact hr
def servedOf (cs : List Cd) (q : Nat) : List Bk := (runTo cs q).getD []
theorem own_capK {w : World} {base : Nat} {o : Option Addr} {n c : Nat} {l : List Bk} (h : ownK w base (.slice o n c) l) : o = none → c = 0 := fun e => (InRow.cap (InRow.of h)) n c (by rw [e])
/-- The head's cell of such a row. -/
theorem head_cell {e : TypeId} {w : World} {base g n c : Nat} {hs : List Hd} (h : ownL layH e w base (.slice (some ⟨g, 0, none⟩) n c) hs) (i : Nat) (hi : i < hs.length) : w.cell? ⟨g, i, none⟩ = some (hv hs i) := by
  rcases ownL.rd (L := layH) h with h1 | ⟨b, off, e1, _, r⟩
  · subst h1; simp at hi
  · injection e1 with e1
    injection e1 with e2 e3
    subst e2 e3
    have := r i hi 0 (by decide)
    simpa [layH, hv] using this
theorem own_someH {e : TypeId} {w : World} {base : Nat} {v : Value} {hs : List Hd} (h : ownL layH e w base v hs) (hp : 0 < hs.length) : ∃ g c, v = .slice (some ⟨g, 0, none⟩) hs.length c := by
  rcases h.2 with ⟨h1, h2⟩ | ⟨g, c, cur, h1, _⟩
  · omega
  · exact ⟨g, c, h1⟩
theorem cells0 (w : World) (T : TypeId) : ownL layH T (w.alloc (.cells #[.slice none 0 0] T)) w.heap.size (.slice (some ⟨w.heap.size, 0, none⟩) 1 1) [(none, 0, 0)] :=
  ⟨by simp [layH], .inr ⟨w.heap.size, 1, #[.slice none 0 0], rfl, Nat.le_refl _, heap_alloc_new w _, by simp, by unfold maxLen; omega, by simp [layH], by simp [layH]⟩⟩
theorem journalB_no {key : Int} {cs : List Cd} {safe : Int} (h : (runTo cs cs.length).isSome = false) : journalB key cs safe = false := by unfold journalB; rw [h]; simp
theorem run_stop {cs : List Cd} {k : Nat} (hk : k < cs.length) (h : stepO (runTo cs k) (cs.getD k (0, 0, 0)) = none) : (runTo cs cs.length).isSome = false := by
  rw [← runTo_succ hk] at h
  rw [runTo_none h (by omega)]; rfl

theorem rd_one {w : World} {o : Option Addr} {n c : Nat} {T : TypeId} : RdL layH (w.alloc (.cells #[.slice o n c] T)).heap.size (w.alloc (.cells #[.slice o n c] T)) (some ⟨w.heap.size, 0, none⟩) [(o, n, c)] :=
  .inr ⟨w.heap.size, 0, rfl, by simp, fun i hi j hj => by
    have e1 : i = 0 := by simpa using hi
    have e2 : j = 0 := by simpa [layH] using hj
    subst e1 e2
    simp [layH]⟩
set_option maxRecDepth 100000 in
set_option maxHeartbeats 8000000 in
theorem turns_loop (key safe : Int) (b off cap : Nat) (cs : List Cd) (w : World) (hbl : cs.length ≠ 0 → b < w.heap.size) (hcell : ∀ i, i < cs.length → ∀ j, j < layC.k → w.cell? ⟨b, off + i * layC.k + j, none⟩ = (layC.cs (cs.getD i layC.d))[j]?) (hk : keyB key = true) (hl : cs.length ≤ 100) (h0 : 0 ≤ safe) (h1 : safe ≤ (cs.length : Int)) (ob : Option Addr) (hob : cs.length ≠ 0 → ob = some ⟨b, off, none⟩) :
    Calls Try.prog 75 #[jrn key (.slice ob cs.length cap) safe] w fun e w' => ∃ v, e = .returned (.tuple #[v, .bool (runTo cs cs.length).isSome]) ∧ ((runTo cs cs.length).isSome = true → ∃ hs, ownL layH 23 w' w.heap.size v hs ∧ Served (servedOf cs) (cs.length + 1) w' w.heap.size hs) ∧ Below w.heap.size w w' := by
  have hik := isKey_any key
  rw [hk] at hik
  have HC := hide hcell
  have HOB := hide hob
  have HBL := hide hbl
  have q1 : decide (100 < (cs.length : Int)) = false := decide_eq_false (by omega)
  have q2 : decide (safe < 0) = false := decide_eq_false (by omega)
  have q3 : decide ((cs.length : Int) < safe) = false := decide_eq_false (by omega)
  have HN := hide hl
  clear hcell hob hbl h0 h1
  obtain ⟨W0, hW0⟩ : ∃ W, (w.alloc (.cells #[.int .i64 key, .slice ob cs.length cap, .int .i64 safe] 47)) = W := ⟨_, rfl⟩
  have hb_W0 : Below w.heap.size w W0 := by rw [← hW0]; exact ((Below.refl _ _).alloc (Nat.le_refl _) _)
  have HB := hide hb_W0
  clear hb_W0
  have zz : w.heap.size < W0.heap.size := by rw [← hW0]; simp
  have z0 : W0.cell? ⟨w.heap.size, 0, none⟩ = some (.int .i64 key) := by rw [← hW0]; simp [go_sem]
  have z1 : W0.cell? ⟨w.heap.size, 1, none⟩ = some (.slice ob cs.length cap) := by rw [← hW0]; simp [go_sem]
  have z2 : W0.cell? ⟨w.heap.size, 2, none⟩ = some (.int .i64 safe) := by rw [← hW0]; simp [go_sem]
  have z0w := z0
  have z1w := z1
  have z2w := z2
  obtain ⟨W1, hW1⟩ : ∃ W, (W0.alloc (.cells #[.slice none 0 0] 23)) = W := ⟨_, rfl⟩
  have hb_W1 : Below W0.heap.size W0 W1 := by rw [← hW1]; exact ((Below.refl _ _).alloc (Nat.le_refl _) _)
  replace z0 : W1.cell? ⟨w.heap.size, 0, none⟩ = some (.int .i64 key) := (hb_W1.cell (p := ⟨w.heap.size, 0, none⟩) zz).trans z0
  replace z1 : W1.cell? ⟨w.heap.size, 1, none⟩ = some (.slice ob cs.length cap) := (hb_W1.cell (p := ⟨w.heap.size, 1, none⟩) zz).trans z1
  replace z2 : W1.cell? ⟨w.heap.size, 2, none⟩ = some (.int .i64 safe) := (hb_W1.cell (p := ⟨w.heap.size, 2, none⟩) zz).trans z2
  replace zz : w.heap.size < W1.heap.size := Nat.lt_of_lt_of_le zz hb_W1.size
  replace HB := hide (HB.out.trans (hb_W1.mono HB.out.size))
  clear hb_W1
  have zq : W0.heap.size < W1.heap.size := by rw [← hW1]; simp
  have q0 : W1.cell? ⟨W0.heap.size, 0, none⟩ = some (.slice none 0 0) := by rw [← hW1]; simp [go_sem]
  have HF : Hid (ownL layH 23 W1 w.heap.size (.slice (some ⟨W0.heap.size, 0, none⟩) 1 1) [(none, 0, 0)]) := by rw [← hW1]; exact own_mono (cells0 W0 _) (Nat.le_of_lt (by have := zz; rw [← hW0]; simp))
  go_enter Try.func75, Try.ntmps75
  go_wp2_with (go_at_call 90; refine (hik _).mono ?_; rintro e w9 ⟨rfl, rfl⟩)
  go_loopw [4, 38] (fun sv iv wr => ∃ (k : Nat) (hs : List Hd), k ≤ cs.length ∧ iv = .int .i64 (k : Int) ∧ Hid (ownL layH 23 wr w.heap.size sv hs) ∧ Hid (Served (servedOf cs) (k + 1) wr w.heap.size hs) ∧ Hid ((runTo cs k).isSome = true) ∧ Hid (Below w.heap.size w wr))
    (fun _ iv _ => cs.length - (intOf iv).toNat)
  case atStart => exact ⟨0, _, Nat.zero_le _, rfl, HF.out, ⟨rfl, fun i hi => by have e : i = 0 := (by omega); subst e; exact World.ownsRow_nil _ _ _ _⟩, rfl, HB.out⟩
  case round =>
    clear z0 z1 z2 zz q0 zq z0w z1w z2w hW0 hW1 HF hik HB
    obtain ⟨k, hs, hkn, rfl, HO, HS, HRUN, HB⟩ := hrel
    by_cases hlt : k < cs.length
    · skip
      have hlt' : (k : Int) < (cs.length : Int) := by omega
      have hob := HOB.out (by omega)
      have hbl := HBL.out (by omega)
      subst hob
      obtain ⟨l, hl0⟩ := Option.isSome_iff_exists.1 HRUN.out
      have hsl : servedOf cs k = l := by unfold servedOf; rw [hl0]; rfl
      obtain ⟨hbo, hll⟩ := runTo_ok k l (by omega) hl0
      obtain ⟨c0, c1, c2⟩ := RdL.cmd (C := w.heap.size) HC.out k hlt
      replace c0 := (HB.out.cell (p := ⟨b, off + k * 3, none⟩) hbl).trans c0
      replace c1 := (HB.out.cell (p := ⟨b, off + k * 3 + 1, none⟩) hbl).trans c1
      replace c2 := (HB.out.cell (p := ⟨b, off + k * 3 + 2, none⟩) hbl).trans c2
      have HNX := hide (runTo_succ hlt)
      obtain ⟨x, y, u, hxyu⟩ : ∃ x y u, cs.getD k (0, 0, 0) = (x, y, u) := ⟨_, _, _, rfl⟩
      rw [hxyu] at c0 c1 c2 HNX
      have HST := hide (fun h => run_stop hlt (hxyu ▸ h) : stepO (runTo cs k) (x, y, u) = none → (runTo cs cs.length).isSome = false)
      rw [hl0] at HNX HST
      simp only [stepO, Option.bind_some] at c0 c1 c2 HNX HST
      clear hxyu HRUN
      have HLN := hide HS.out.len
      obtain ⟨g, c, e⟩ := own_someH HO.out (by rw [HLN.out]; omega)
      subst e
      have hnk : (k : Int) < (hs.length : Int) := by have := HLN.out; omega
      cases hc : cmdOkB x y u with
      | false =>
        rw [hc] at HST
        have HEND := hide (HST.out (by simp))
        clear HST HNX
        obtain ⟨W2, hW2⟩ : ∃ W, (wr.alloc (.cells #[.int .i64 x, .int .i64 y, .int .i64 u] 28)) = W := ⟨_, rfl⟩
        have hb_W2 : Below wr.heap.size wr W2 := by rw [← hW2]; exact ((Below.refl _ _).alloc (Nat.le_refl _) _)
        replace HS := hide (HS.out.kept hb_W2)
        replace HO := hide (own_kept HO.out hb_W2)
        replace HB := hide (HB.out.trans (hb_W2.mono HB.out.size))
        clear hb_W2
        have zm : wr.heap.size < W2.heap.size := by rw [← hW2]; simp
        have m0 : W2.cell? ⟨wr.heap.size, 0, none⟩ = some (.int .i64 x) := by rw [← hW2]; simp [go_sem]
        have m1 : W2.cell? ⟨wr.heap.size, 1, none⟩ = some (.int .i64 y) := by rw [← hW2]; simp [go_sem]
        have m2 : W2.cell? ⟨wr.heap.size, 2, none⟩ = some (.int .i64 u) := by rw [← hW2]; simp [go_sem]
        have HD := hide (deedOf_any x y u W2)
        rw [hc] at HD
        simp only [Bool.false_eq_true, if_false] at HD
        clear hc
        go_wp2_with fail
        refine (HD.out).mono ?_
        rintro e v1 ⟨rfl, hb⟩
        replace m0 : v1.cell? ⟨wr.heap.size, 0, none⟩ = some (.int .i64 x) := (hb.cell (p := ⟨wr.heap.size, 0, none⟩) zm).trans m0
        replace m1 : v1.cell? ⟨wr.heap.size, 1, none⟩ = some (.int .i64 y) := (hb.cell (p := ⟨wr.heap.size, 1, none⟩) zm).trans m1
        replace m2 : v1.cell? ⟨wr.heap.size, 2, none⟩ = some (.int .i64 u) := (hb.cell (p := ⟨wr.heap.size, 2, none⟩) zm).trans m2
        replace zm : wr.heap.size < v1.heap.size := Nat.lt_of_lt_of_le zm hb.size
        replace HS := hide (HS.out.kept hb)
        replace HO := hide (own_kept HO.out hb)
        replace HB := hide (HB.out.trans (hb.mono HB.out.size))
        clear hb
        go_wp2
        go_ret2
        refine ⟨.slice none 0 0, ?_, ?_, HB.out⟩
        · rw [HEND.out]; rfl
        · intro h; rw [HEND.out] at h; cases h
      | true =>
        rw [hc] at HST HNX
        simp only [if_true] at HST HNX
        obtain ⟨W2, hW2⟩ : ∃ W, (wr.alloc (.cells #[.int .i64 x, .int .i64 y, .int .i64 u] 28)) = W := ⟨_, rfl⟩
        have hb_W2 : Below wr.heap.size wr W2 := by rw [← hW2]; exact ((Below.refl _ _).alloc (Nat.le_refl _) _)
        replace HS := hide (HS.out.kept hb_W2)
        replace HO := hide (own_kept HO.out hb_W2)
        replace HB := hide (HB.out.trans (hb_W2.mono HB.out.size))
        clear hb_W2
        have zm : wr.heap.size < W2.heap.size := by rw [← hW2]; simp
        have m0 : W2.cell? ⟨wr.heap.size, 0, none⟩ = some (.int .i64 x) := by rw [← hW2]; simp [go_sem]
        have m1 : W2.cell? ⟨wr.heap.size, 1, none⟩ = some (.int .i64 y) := by rw [← hW2]; simp [go_sem]
        have m2 : W2.cell? ⟨wr.heap.size, 2, none⟩ = some (.int .i64 u) := by rw [← hW2]; simp [go_sem]
        have HD := hide (deedOf_any x y u W2)
        rw [hc] at HD
        simp only [if_true] at HD
        have HA := hide (fun o c W h1 h2 => backsAfter_any o c l x y u W h1 h2 (by have := HN.out; omega) hc)
        generalize deedV x y u = dv at *
        clear hc
        go_wp2_with fail
        refine (HD.out).mono ?_
        rintro e v1 ⟨rfl, hb⟩
        replace m0 : v1.cell? ⟨wr.heap.size, 0, none⟩ = some (.int .i64 x) := (hb.cell (p := ⟨wr.heap.size, 0, none⟩) zm).trans m0
        replace m1 : v1.cell? ⟨wr.heap.size, 1, none⟩ = some (.int .i64 y) := (hb.cell (p := ⟨wr.heap.size, 1, none⟩) zm).trans m1
        replace m2 : v1.cell? ⟨wr.heap.size, 2, none⟩ = some (.int .i64 u) := (hb.cell (p := ⟨wr.heap.size, 2, none⟩) zm).trans m2
        replace zm : wr.heap.size < v1.heap.size := Nat.lt_of_lt_of_le zm hb.size
        replace HS := hide (HS.out.kept hb)
        replace HO := hide (own_kept HO.out hb)
        replace HB := hide (HB.out.trans (hb.mono HB.out.size))
        clear hb
        obtain ⟨o', c', e', hr'⟩ := ownL.open (L := layK) (HS.out.row k (by omega))
        rw [hsl] at e' hr'
        have hcl := head_cell HO.out k (by rw [HLN.out]; omega)
        rw [e'] at hcl
        have hown := HS.out.row k (by omega)
        rw [e', hsl] at hown
        have HA2 := hide (HA.out o' c' v1 hr' (own_capK hown))
        clear hr' hown HA HD e'
        cases hdo : doL l x y u with
        | none =>
          rw [hdo] at HST HA2
          have HEND := hide (HST.out rfl)
          simp only [Option.isSome_none] at HA2
          clear HST HNX hdo
          go_wp2_with fail
          refine (HA2.out).mono ?_
          rintro e v2 ⟨v9, rfl, _, hb⟩
          replace m0 : v2.cell? ⟨wr.heap.size, 0, none⟩ = some (.int .i64 x) := (hb.cell (p := ⟨wr.heap.size, 0, none⟩) zm).trans m0
          replace m1 : v2.cell? ⟨wr.heap.size, 1, none⟩ = some (.int .i64 y) := (hb.cell (p := ⟨wr.heap.size, 1, none⟩) zm).trans m1
          replace m2 : v2.cell? ⟨wr.heap.size, 2, none⟩ = some (.int .i64 u) := (hb.cell (p := ⟨wr.heap.size, 2, none⟩) zm).trans m2
          replace zm : wr.heap.size < v2.heap.size := Nat.lt_of_lt_of_le zm hb.size
          replace HS := hide (HS.out.kept hb)
          replace HO := hide (own_kept HO.out hb)
          replace HB := hide (HB.out.trans (hb.mono HB.out.size))
          clear hb
          go_wp2
          go_ret2
          refine ⟨.slice none 0 0, ?_, ?_, HB.out⟩
          · rw [HEND.out]; rfl
          · intro h; rw [HEND.out] at h; cases h
        | some m =>
          rw [hdo] at HNX HA2
          simp only [Option.isSome_some] at HA2
          have hlm := doL_len hdo
          have HBP := hide HB.out.size
          clear HST hdo
          go_wp2_with fail
          refine (HA2.out).mono ?_
          rintro e v2 ⟨v9, rfl, hown9, hb⟩
          have HW := hide (hown9 m rfl)
          have hs9 := hb.size
          clear hown9
          replace m0 : v2.cell? ⟨wr.heap.size, 0, none⟩ = some (.int .i64 x) := (hb.cell (p := ⟨wr.heap.size, 0, none⟩) zm).trans m0
          replace m1 : v2.cell? ⟨wr.heap.size, 1, none⟩ = some (.int .i64 y) := (hb.cell (p := ⟨wr.heap.size, 1, none⟩) zm).trans m1
          replace m2 : v2.cell? ⟨wr.heap.size, 2, none⟩ = some (.int .i64 u) := (hb.cell (p := ⟨wr.heap.size, 2, none⟩) zm).trans m2
          replace zm : wr.heap.size < v2.heap.size := Nat.lt_of_lt_of_le zm hb.size
          replace HS := hide (HS.out.kept hb)
          replace HO := hide (own_kept HO.out hb)
          replace HB := hide (HB.out.trans (hb.mono HB.out.size))
          clear hb
          obtain ⟨o9, c9, e9, _⟩ := ownL.open (L := layK) HW.out
          rw [e9] at HW ⊢
          clear e9
          replace HW := hide (own_mono HW.out (show w.heap.size ≤ _ from HBP.out))
          have HS2 := hide (Served.snoc HS.out (show ownK _ w.heap.size (.slice o9 m.length c9) (servedOf cs (k + 1)) by unfold servedOf; rw [HNX.out]; exact HW.out))
          have HRN := hide (show (runTo cs (k + 1)).isSome = true by rw [HNX.out]; rfl)
          have hszz := HB.out.size
          generalize m.length = ml at *
          go_wp2_with (at_builtin; refine wpList_append_lay appHB rfl (.tmp 61) (.tmp 63) rfl w.heap.size _ hs rfl (HO.out.alloc _) (some ⟨v2.heap.size, 0, none⟩) 1 (v2.alloc (.cells #[.slice o9 ml c9] 23)).heap.size [(o9, ml, c9)] 1 rfl rfl ?c0 rd_one ?c1 ?c2 ?_)
          case c0 => intro h; cases h
          case c1 => have := HLN.out; have := HN.out; simp; omega
          case c2 => simp; omega
          intro v5 w5 ho5 hg5 _
          have HA5 := hide (World.ownsRow.alloc HO.out (.cells #[.slice o9 ml c9] 23))
          have HS5 := hide (Served.other (HS2.out.kept ((Below.refl _ _).alloc (Nat.le_refl _) (.cells #[.slice o9 ml c9] 23))) HA5.out hg5)
          have HB5 := hide ((HB.out.alloc hszz _).grown hg5 (by simp; omega) (fun k h => (HA5.out.lt k h).1))
          have HO5 := hide ho5
          clear hg5 ho5
          go_wp2
          go_roundw
          case rel => exact ⟨k + 1, _, by omega, by go_num, HO5.out, HS5.out, HRN.out, HB5.out⟩
          case measure => simp [intOf]; omega
    · have e : k = cs.length := by omega
      subst e
      clear HC HOB HBL
      go_wp2
      go_ret2
      refine ⟨u4, ?_, fun _ => ⟨hs, HO.out, HS.out⟩, HB.out⟩
      rw [HRUN.out]; rfl

set_option maxRecDepth 100000 in
set_option maxHeartbeats 4000000 in
theorem turns_any (key safe : Int) (o : Option Addr) (cap : Nat) (cs : List Cd) (w : World) (hR : RdC w.heap.size w o cs) (hl : cs.length ≤ 1048576) :
    Calls Try.prog 75 #[jrn key (.slice o cs.length cap) safe] w fun e w' => ∃ v, e = .returned (.tuple #[v, .bool (journalB key cs safe)]) ∧ (journalB key cs safe = true → ∃ hs, ownL layH 23 w' w.heap.size v hs ∧ Served (servedOf cs) (cs.length + 1) w' w.heap.size hs) ∧ Below w.heap.size w w' := by
  by_cases hall : keyB key = true ∧ cs.length ≤ 100 ∧ 0 ≤ safe ∧ safe ≤ (cs.length : Int)
  · obtain ⟨h1, h2, h3, h4⟩ := hall
    have e : journalB key cs safe = (runTo cs cs.length).isSome := by unfold journalB; simp [h1, h2, h3, h4]
    rw [e]
    rcases hR with hR | ⟨b, off, rfl, hbl, hcell⟩
    · subst hR
      exact turns_loop key safe 0 0 cap [] w (fun h => absurd rfl h) (fun i hi => absurd hi (Nat.not_lt_zero _)) h1 h2 h3 h4 o (fun h => absurd rfl h)
    · exact turns_loop key safe b off cap cs w (fun _ => hbl) hcell h1 h2 h3 h4 _ (fun _ => rfl)
  have HE := hide (show journalB key cs safe = false by
    rw [Bool.eq_false_iff]; intro h; unfold journalB at h; simp only [Bool.and_eq_true, decide_eq_true_eq] at h; exact hall ⟨h.1.1.1.1, h.1.1.1.2, h.1.1.2, h.1.2⟩)
  have hik := isKey_any key
  obtain ⟨W0, hW0⟩ : ∃ W, (w.alloc (.cells #[.int .i64 key, .slice o cs.length cap, .int .i64 safe] 47)) = W := ⟨_, rfl⟩
  have hb_W0 : Below w.heap.size w W0 := by rw [← hW0]; exact ((Below.refl _ _).alloc (Nat.le_refl _) _)
  have HB := hide hb_W0
  clear hb_W0
  have zz : w.heap.size < W0.heap.size := by rw [← hW0]; simp
  have z0 : W0.cell? ⟨w.heap.size, 0, none⟩ = some (.int .i64 key) := by rw [← hW0]; simp [go_sem]
  have z1 : W0.cell? ⟨w.heap.size, 1, none⟩ = some (.slice o cs.length cap) := by rw [← hW0]; simp [go_sem]
  have z2 : W0.cell? ⟨w.heap.size, 2, none⟩ = some (.int .i64 safe) := by rw [← hW0]; simp [go_sem]
  clear hR
  cases hk : keyB key with
  | false =>
    rw [hk] at hik
    clear hall
    go_enter Try.func75, Try.ntmps75
    go_wp2_with (go_at_call 90; refine (hik _).mono ?_; rintro e w9 ⟨rfl, rfl⟩)
    go_ret2
    refine ⟨.slice none 0 0, ?_, ?_, HB.out⟩
    · rw [HE.out]; rfl
    · intro h; rw [HE.out] at h; cases h
  | true =>
    by_cases h2 : cs.length ≤ 100
    · by_cases h3 : 0 ≤ safe
      · by_cases h4 : safe ≤ (cs.length : Int)
        · exact absurd ⟨hk, h2, h3, h4⟩ hall
        · skip
          rw [hk] at hik
          have q1 : decide (100 < (cs.length : Int)) = false := decide_eq_false (by omega)
          have q2 : decide (safe < 0) = false := decide_eq_false (by omega)
          have q3 : decide ((cs.length : Int) < safe) = true := decide_eq_true (by omega)
          clear hall
          go_enter Try.func75, Try.ntmps75
          go_wp2_with (go_at_call 90; refine (hik _).mono ?_; rintro e w9 ⟨rfl, rfl⟩)
          go_ret2
          refine ⟨.slice none 0 0, ?_, ?_, HB.out⟩
          · rw [HE.out]; rfl
          · intro h; rw [HE.out] at h; cases h
      · skip
        rw [hk] at hik
        have q1 : decide (100 < (cs.length : Int)) = false := decide_eq_false (by omega)
        have q2 : decide (safe < 0) = true := decide_eq_true (by omega)
        clear hall
        go_enter Try.func75, Try.ntmps75
        go_wp2_with (go_at_call 90; refine (hik _).mono ?_; rintro e w9 ⟨rfl, rfl⟩)
        go_ret2
        refine ⟨.slice none 0 0, ?_, ?_, HB.out⟩
        · rw [HE.out]; rfl
        · intro h; rw [HE.out] at h; cases h
    · skip
      rw [hk] at hik
      have q1 : decide (100 < (cs.length : Int)) = true := decide_eq_true (by omega)
      clear hall
      go_enter Try.func75, Try.ntmps75
      go_wp2_with (go_at_call 90; refine (hik _).mono ?_; rintro e w9 ⟨rfl, rfl⟩)
      go_ret2
      refine ⟨.slice none 0 0, ?_, ?_, HB.out⟩
      · rw [HE.out]; rfl
      · intro h; rw [HE.out] at h; cases h

set_option maxHeartbeats 1000000 in
theorem implJournalOk_sh (v : Value) (m : Jm) (w : World) (hR : RdJm w.heap.size w v m) (hf : fitJm m) :
    Calls Try.prog 24 #[v] w fun e w' => e = .returned (.bool (journalB m.key m.l m.safe)) ∧ Below w.heap.size w w' := by
  obtain ⟨vl, rfl, ⟨o, c, rfl, r⟩⟩ := hR
  obtain ⟨W0, hW0⟩ : ∃ W, (w.alloc (.cells #[.int .i64 m.key, .slice o m.l.length c, .int .i64 m.safe] 47)) = W := ⟨_, rfl⟩
  have hb_W0 : Below w.heap.size w W0 := by rw [← hW0]; exact ((Below.refl _ _).alloc (Nat.le_refl _) _)
  have HB := hide hb_W0
  clear hb_W0
  have zz : w.heap.size < W0.heap.size := by rw [← hW0]; simp
  have z0 : W0.cell? ⟨w.heap.size, 0, none⟩ = some (.int .i64 m.key) := by rw [← hW0]; simp [go_sem]
  have z1 : W0.cell? ⟨w.heap.size, 1, none⟩ = some (.slice o m.l.length c) := by rw [← hW0]; simp [go_sem]
  have z2 : W0.cell? ⟨w.heap.size, 2, none⟩ = some (.int .i64 m.safe) := by rw [← hW0]; simp [go_sem]
  have HT := hide (turns_any m.key m.safe o c m.l W0 ((RdL.kept r HB.out (Nat.le_refl _)).le HB.out.size) hf)
  generalize journalB m.key m.l m.safe = t at *
  go_enter Try.func24, Try.ntmps24
  go_wp2_with fail
  refine (HT.out).mono ?_
  rintro e v1 ⟨v9, rfl, _, hb⟩
  replace z0 : v1.cell? ⟨w.heap.size, 0, none⟩ = some (.int .i64 m.key) := (hb.cell (p := ⟨w.heap.size, 0, none⟩) zz).trans z0
  replace z1 : v1.cell? ⟨w.heap.size, 1, none⟩ = some (.slice o m.l.length c) := (hb.cell (p := ⟨w.heap.size, 1, none⟩) zz).trans z1
  replace z2 : v1.cell? ⟨w.heap.size, 2, none⟩ = some (.int .i64 m.safe) := (hb.cell (p := ⟨w.heap.size, 2, none⟩) zz).trans z2
  replace zz : w.heap.size < v1.heap.size := Nat.lt_of_lt_of_le zz hb.size
  replace HB := hide (HB.out.trans (hb.mono HB.out.size))
  clear hb
  go_wp2
  go_ret
  exact ⟨rfl, HB.out⟩

end Go.Proofs.Ytldjaapbkihibaa
