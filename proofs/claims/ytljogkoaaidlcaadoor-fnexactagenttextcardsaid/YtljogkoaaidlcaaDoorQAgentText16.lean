/- Several texts in one: SFlows, SortMath. -/
import Derived.Deep.RegionLaw
import Derived.Test.YtljogkoaaidlcaaDoorQAgentText12
import Derived.Test.YtljogkoaaidlcaaDoorQAgentText06
import Derived.Test.YtljogkoaaidlcaaDoorQAgentText15
import Derived.Test.YtljogkoaaidlcaaDoorQAgentText11
import Derived.Test.YtljogkoaaidlcaaDoorQAgentText13
/- The model's FlowsOf. -/
namespace Go.Proofs.YtljogkoaaidlcaaDoor
open Go.ChangeShapes Go.WideShapes Go.ChangeAt Go.RowKit Go.Joins
set_option linter.unusedVariables false
set_option linter.unusedSimpArgs false

def ltF (x y : Int × Int) : Bool := decide ((if x.1 = y.1 then cmpI x.2 y.2 else cmpI x.1 y.1) < 0)
/-- Where a flow goes in. -/
def plF (f : Int × Int) (L : List (Int × Int)) : Nat := (L.takeWhile (fun x => ltF x f)).length
def insF (f : Int × Int) (L : List (Int × Int)) : List (Int × Int) := L.take (plF f L) ++ ([f] ++ L.drop (plF f L))
def sortF (fs : List (Int × Int)) : List (Int × Int) := fs.foldl (fun L f => insF f L) []
theorem sortF_snoc (fs : List (Int × Int)) (f : Int × Int) : sortF (fs ++ [f]) = insF f (sortF fs) := by unfold sortF; rw [List.foldl_append]; rfl
theorem plF_le (f : Int × Int) : ∀ L : List (Int × Int), plF f L ≤ L.length
 | [] => Nat.le_refl _
 | x :: L => by
  unfold plF
  rw [List.takeWhile_cons]
  split
  ·have := plF_le f L; unfold plF at this; simp; omega
  ·simp
theorem plF_lt (f : Int × Int) : ∀ (L : List (Int × Int)) (j : Nat), j < plF f L → ltF (L.getD j (0, 0)) f = true
 | [], j, h => absurd h (Nat.not_lt_zero _)
 | x :: L, j, h => by
  unfold plF at h
  rw [List.takeWhile_cons] at h
  split at h
  ·next hx =>
   cases j with
   | zero => exact hx
   | succ j => exact plF_lt f L j (by unfold plF; simpa using h)
  ·simp at h
theorem plF_at (f : Int × Int) : ∀ (L : List (Int × Int)), plF f L < L.length → ltF (L.getD (plF f L) (0, 0)) f = false
 | [], h => absurd h (Nat.not_lt_zero _)
 | x :: L, h => by
  cases hx : ltF x f with
  | true =>
   have e : plF f (x :: L) = plF f L + 1 := by unfold plF; rw [List.takeWhile_cons, if_pos hx]; rfl
   rw [e] at h ⊢
   exact plF_at f L (by simpa using h)
  | false =>
   have e : plF f (x :: L) = 0 := by unfold plF; rw [List.takeWhile_cons, if_neg (by rw [hx]; decide)]; rfl
   rw [e]
   exact hx
theorem plF_step {f : Int × Int} {L : List (Int × Int)} {j : Nat} (hj : j ≤ plF f L) (hl : j < L.length) (h : ltF (L.getD j (0, 0)) f = true) : j + 1 ≤ plF f L := by
 rcases Nat.lt_or_eq_of_le hj with h1 | h1
 ·exact h1
 ·subst h1; rw [plF_at f L hl] at h; cases h
theorem plF_stop {f : Int × Int} {L : List (Int × Int)} {j : Nat} (hj : j ≤ plF f L) (h : ltF (L.getD j (0, 0)) f = false) : j = plF f L := by
 rcases Nat.lt_or_eq_of_le hj with h1 | h1
 ·rw [plF_lt f L j h1] at h; cases h
 ·exact h1
theorem insF_length (f : Int × Int) (L : List (Int × Int)) : (insF f L).length = L.length + 1 := by
 have := plF_le f L
 unfold insF
 simp only [List.length_append, List.length_take, List.length_drop, List.length_cons, List.length_nil]
 omega
theorem foldF_length : ∀ (fs L : List (Int × Int)), (fs.foldl (fun L f => insF f L) L).length = L.length + fs.length
 | [], L => rfl
 | f :: fs, L => by
  have h := foldF_length fs (insF f L)
  rw [insF_length] at h
  simp only [List.foldl_cons, List.length_cons]
  omega
theorem sortF_length (fs : List (Int × Int)) : (sortF fs).length = fs.length := by unfold sortF; rw [foldF_length]; simp
theorem flat_take {α : Type} (L : Lay α) : ∀ (l : List α) (j : Nat), (l.take j).flatMap L.cs = (l.flatMap L.cs).take (j * L.k)
 | [], j => by simp
 | x :: l, 0 => by simp
 | x :: l, j + 1 => by
  have hx : (L.cs x).length = L.k := L.len x
  have h1 : (L.cs x).take ((j + 1) * L.k) = L.cs x := List.take_of_length_le (by rw [hx, Nat.succ_mul]; omega)
  rw [List.take_succ_cons, List.flatMap_cons, List.flatMap_cons, flat_take L l j, List.take_append, h1, hx, show (j + 1) * L.k - L.k = j * L.k by rw [Nat.succ_mul]; omega]
theorem rd_nn {α : Type} {L : Lay α} {C : Nat} {w : World} {o : Option Addr} {l : List α} {P : Prop} (h : RdL L C w o l) (hl : l ≠ []) : o = none → P := fun e => by
 rcases h with h | ⟨b, off, h, _⟩
 ·exact absurd h hl
 ·rw [h] at e; cases e
/-- The head of an own row is one. -/
theorem own_take {α : Type} {L : Lay α} {e : TypeId} {w : World} {base n c j : Nat} {o : Option Addr} {l : List α} (h : ownL L e w base (.slice o n c) l) (hj : j ≤ l.length) : ownL L e w base (.slice o j c) (l.take j) := by
 obtain ⟨_, h2⟩ := h
 have hjl : (l.take j).length = j := by rw [List.length_take]; omega
 refine ⟨flat_length L _, ?_⟩
 rcases h2 with ⟨hv, hn⟩ | ⟨g, cap, cur, hv, hb, hc, h4, h5, h6, h7⟩
 ·left
  injection hv with e1 e2 e3
  subst e1 e3
  have : j = 0 := by omega
  subst this
  exact ⟨rfl, hjl⟩
 ·right
  injection hv with e1 e2 e3
  subst e1 e3
  refine ⟨g, c, cur, by rw [hjl], hb, hc, by omega, h5, h6, ?_⟩
  rw [hjl, flat_take, ← h7, List.take_take, Nat.min_eq_left (Nat.mul_le_mul_right _ hj)]
theorem rd_dropF {α : Type} {L : Lay α} {C : Nat} {w : World} {b off : Nat} {l : List α} (k q : Nat) (hq : q = off + k * L.k) (h : RdL L C w (some ⟨b, off, none⟩) l) : RdL L C w (some ⟨b, q, none⟩) (l.drop k) := by
 subst hq
 rcases h with h | ⟨b', off', ho, hlt, r⟩
 ·left; rw [h]; simp
 ·obtain ⟨rfl, rfl⟩ : b = b' ∧ off = off' := by simpa using ho
  refine .inr ⟨b, off + k * L.k, rfl, hlt, fun i hi j hj => ?_⟩
  have hi' : k + i < l.length := by simp at hi; omega
  have := r (k + i) hi' j hj
  rw [Nat.add_mul, ← Nat.add_assoc] at this
  rw [this]
  congr 2
  simp [List.getD_eq_getElem?_getD, List.getElem?_drop]
theorem own_some {α : Type} {L : Lay α} {e : TypeId} {w : World} {base n c : Nat} {o : Option Addr} {l : List α} (h : ownL L e w base (.slice o n c) l) : (o = none ∧ l = [] ∧ c = 0) ∨ ∃ g, o = some ⟨g, 0, none⟩ ∧ l.length ≤ c ∧ g < w.heap.size := by
 have hg := fun g hg => h.lt g hg
 rcases h.2 with ⟨hv, hn⟩ | ⟨g, cap, cur, hv, hb, hc, h4, _⟩
 ·injection hv with e1 e2 e3
  exact .inl ⟨e1, List.eq_nil_of_length_eq_zero hn, e3⟩
 ·injection hv with e1 e2 e3
  subst e1 e3
  exact .inr ⟨g, rfl, h4, (hg g rfl).2⟩
theorem rd_rowF {e : TypeId} {w : World} {base g n c : Nat} {L : List (Int × Int)} (h : ownL layF e w base (.slice (some ⟨g, 0, none⟩) n c) L) (i : Nat) (hi : i < L.length) :
  w.cell? ⟨g, i * 2, none⟩ = some (.int .i64 (L.getD i (0, 0)).1) ∧ w.cell? ⟨g, i * 2 + 1, none⟩ = some (.int .i64 (L.getD i (0, 0)).2) := by
 rcases h.rd with h | ⟨b', off', ho, hlt, r⟩
 ·rw [h] at hi; exact absurd hi (Nat.not_lt_zero _)
 ·obtain ⟨rfl, rfl⟩ : g = b' ∧ 0 = off' := by simpa using ho
  have r0 := r i hi 0 (by decide)
  have r1 := r i hi 1 (by decide)
  simp only [Nat.zero_add, Nat.add_zero] at r0 r1
  exact ⟨r0, r1⟩
theorem own_one (w : World) (x y : Int) : ownL layF 48 (w.alloc (.cells #[.int .i64 x, .int .i64 y] 48)).drew w.heap.size (.slice (some ⟨w.heap.size, 0, none⟩) 1 1) [(x, y)] :=
 ⟨rfl, .inr ⟨w.heap.size, 1, _, rfl, Nat.le_refl _, heap_alloc_new w _, Nat.le_refl _, by unfold maxLen; omega, rfl, rfl⟩⟩
def flowsM (l : List Sl) : List (Int × Int) := if tableOkB l = true then sortF (flowsTo l l.length) else []

set_option maxRecDepth 100000 in
set_option maxHeartbeats 8000000 in
theorem specFlowsOf_any (o : Option Addr) (c : Nat) (l : List Sl) (w : World) (hR : RdS w.heap.size w o l) (hl : l.length ≤ 1048576) :
  Calls Tryd.prog 16 #[tab (.slice o l.length c)] w fun e w' => ∃ v, e = .returned v ∧ ownL layF 48 w' w.heap.size v (flowsM l) ∧ Below w.heap.size w w' := by
 obtain ⟨W0, hW0⟩ : ∃ W, (w.alloc (.cells #[.slice o l.length c] 32)) = W := ⟨_, rfl⟩
 have hb_W0 : Below w.heap.size w W0 := by rw [← hW0]; exact ((Below.refl _ _).alloc (Nat.le_refl _) _)
 have HB := hide hb_W0
 clear hb_W0
 have zct : w.heap.size < W0.heap.size := by rw [← hW0]; simp
 have ct0 : W0.cell? ⟨w.heap.size, 0, none⟩ = some (.slice o l.length c) := by rw [← hW0]; simp [go_sem]
 have hok := specTableOk_any o c l W0 ((hR.kept HB.out (Nat.le_refl _)).le HB.out.size) hl
 cases hT : tableOkB l with
 | false =>
  have HM := hide (show flowsM l = [] by unfold flowsM; rw [hT]; rfl)
  rw [hT] at hok
  go_enter Tryd.func16, Tryd.ntmps16
  go_wp2_with fail
  refine (hok).mono ?_
  rintro e v1 ⟨rfl, hb⟩
  replace ct0 : v1.cell? ⟨w.heap.size, 0, none⟩ = some (.slice o l.length c) := (hb.cell (p := ⟨w.heap.size, 0, none⟩) zct).trans ct0
  replace zct : w.heap.size < v1.heap.size := Nat.lt_of_lt_of_le zct hb.size
  replace HB := hide (HB.out.trans (hb.mono HB.out.size))
  clear hb
  clear hok hT
  go_wp2
  go_ret
  exact ⟨_, rfl, by rw [HM.out]; exact World.ownsRow_nil _ _ _ _, HB.out⟩
 | true =>
  have HM := hide (show flowsM l = sortF (flowsTo l l.length) by unfold flowsM; rw [hT]; rfl)
  rw [hT] at hok
  have hn := (tableOkB_iff.1 hT).1
  have h16 := (tableOkB_iff.1 hT).2.1
  rcases hR with hR | ⟨b, off, rfl, hbl, hcell⟩
  ·subst hR; simp at hn
  have HC := hide hcell
  clear hcell
  go_enter Tryd.func16, Tryd.ntmps16
  go_wp2_with fail
  refine (hok).mono ?_
  rintro e v1 ⟨rfl, hb⟩
  replace ct0 : v1.cell? ⟨w.heap.size, 0, none⟩ = some (.slice (some ⟨b, off, none⟩) l.length c) := (hb.cell (p := ⟨w.heap.size, 0, none⟩) zct).trans ct0
  replace zct : w.heap.size < v1.heap.size := Nat.lt_of_lt_of_le zct hb.size
  replace HB := hide (HB.out.trans (hb.mono HB.out.size))
  clear hb
  clear hok hT
  have hsv := HB.out.size
  have hbv : b < v1.heap.size := Nat.lt_of_lt_of_le hbl HB.out.size
  go_wp2
  go_loopw [3, 4] (fun ov iv wr => ∃ k : Nat, k ≤ l.length ∧ iv = .int .i64 k ∧ Hid (ownL layF 48 wr v1.heap.size ov (sortF (flowsTo l k))) ∧ Hid (Below v1.heap.size v1 wr))
   (fun _ iv _ => l.length - (intOf iv).toNat)
  case atStart => exact ⟨0, Nat.zero_le _, rfl, World.ownsRow_nil _ _ _ _, Below.refl _ _⟩
  case round =>
   obtain ⟨k, hk, rfl, HO, HBr⟩ := hrel
   by_cases hlt : k < l.length
   ·skip
    have hcx := RdL.slot (C := w.heap.size) HC.out k hlt
    obtain ⟨s, hxy⟩ : ∃ s, l.getD k sl0 = s := ⟨_, rfl⟩
    rw [hxy] at hcx
    have E0 := hide ((HB.out.cell (p := ⟨b, off + k * 5, none⟩) hbl).trans hcx.1)
    have e0 := (HBr.out.cell (p := ⟨b, off + k * 5, none⟩) hbv).trans E0.out
    have E1 := hide ((HB.out.cell (p := ⟨b, off + k * 5 + 1, none⟩) hbl).trans hcx.2.1)
    have e1 := (HBr.out.cell (p := ⟨b, off + k * 5 + 1, none⟩) hbv).trans E1.out
    have E2 := hide ((HB.out.cell (p := ⟨b, off + k * 5 + 2, none⟩) hbl).trans hcx.2.2.1)
    have e2 := (HBr.out.cell (p := ⟨b, off + k * 5 + 2, none⟩) hbv).trans E2.out
    have CT := hide ct0
    have ctr := (HBr.out.cell (p := ⟨w.heap.size, 0, none⟩) zct).trans ct0
    clear ct0
    have hk' : (k : Int) < (l.length : Int) := by omega
    have HX := hide hxy
    clear hcx hxy
    obtain ⟨su, sa, sp, sv, st⟩ := s
    simp only at e0 e1 e2 E0 E1 E2
    cases su with
    | false =>
     have HN := hide (flowsTo_free hlt (by rw [HX.out]))
     go_wp2
     go_roundw
     case rel => exact ⟨k + 1, hlt, by go_num, (by unfold Hid; rw [HN.out]; exact HO.out), HBr⟩
     case measure => simp [intOf]; omega
    | true =>
     have hN := flowsTo_used hlt (by rw [HX.out])
     rw [HX.out] at hN
     have hLk : (sortF (flowsTo l k)).length ≤ k := by rw [sortF_length, flowsTo_len]; exact countTo_le l k
     have HN := hide (show sortF (flowsTo l (k + 1)) = insF (sa, sp) (sortF (flowsTo l k)) by rw [hN, sortF_snoc])
     clear hN
     obtain ⟨L, hL⟩ : ∃ L, sortF (flowsTo l k) = L := ⟨_, rfl⟩
     rw [hL] at HN HO hLk
     clear hL
     obtain ⟨oo, cc, hoe, _⟩ := ownL.open (L := layF) HO.out
     subst hoe
     obtain ⟨n, hLn⟩ : ∃ n, L.length = n := ⟨_, rfl⟩
     rw [hLn] at HO hLk ⊢
     have HLn := hide hLn
     have hpl := plF_le (sa, sp) L
     rw [hLn] at hpl
     clear hLn
     rcases own_some HO.out with ⟨rfl, rfl, rfl⟩ | ⟨g, rfl, hcc, hgw⟩
     ·skip
      have hn0 : n = 0 := by have := HLn.out; simpa using this.symm
      subst hn0
      go_wp2
      go_loopw [5] (fun jv wi => ∃ j : Nat, j ≤ plF (sa, sp) [] ∧ jv = .int .i64 j ∧ Hid (ownL layF 48 wi v1.heap.size (.slice none 0 0) []) ∧ Hid (Below v1.heap.size v1 wi))
       (fun jv _ => 0 - (intOf jv).toNat)
      case atStart => exact ⟨0, Nat.zero_le _, rfl, HO, HBr⟩
      case round =>
       clear HO HBr e0 e1 e2 ctr
       obtain ⟨j, hj, rfl, HOi, HBi⟩ := hrel
       have hj0 : j = 0 := by simpa [plF] using hj
       subst hj0
       have HJ := hide (show 0 = plF (sa, sp) [] from rfl)
       go_wp2
       (refine wp_region_grown (by kernel_rfl) (by kernel_rfl) ?_; intro hne9; (repeat (go_big_quiet_step ((fail)))); (with_reducible refine wpQuiet_nil ?_); intro _ hw9; obtain ⟨pq, hw8⟩ := hw9; subst hw8)
       have HOw : Hid (ownL layF 48 pq.v v1.heap.size (.slice none 0 0) []) := own_kept HOi.out pq.b
       have HBw := hide (HBi.out.trans (pq.b.mono HBi.out.size))
       have hszw := HBw.out.size
       have e0 := (HBw.out.cell (p := ⟨b, off + k * 5, none⟩) hbv).trans E0.out
       have e1 := (HBw.out.cell (p := ⟨b, off + k * 5 + 1, none⟩) hbv).trans E1.out
       have e2 := (HBw.out.cell (p := ⟨b, off + k * 5 + 2, none⟩) hbv).trans E2.out
       have ctw := (HBw.out.cell (p := ⟨w.heap.size, 0, none⟩) zct).trans CT.out
       have F1 := hide (own_one pq.v sa sp)
       have B1 : Hid (Below pq.v.heap.size pq.v (pq.v.alloc (.cells #[.int .i64 sa, .int .i64 sp] 48)).drew) := ((Below.refl _ _).alloc (Nat.le_refl _) _).drew
       have OT : Hid (ownL layF 48 pq.v v1.heap.size (.slice none 0 0) ([] : List (Int × Int))) := World.ownsRow_nil _ _ _ _
       have FR : Hid (RdL layF pq.v.heap.size (pq.v.alloc (.cells #[.int .i64 sa, .int .i64 sp] 48)).drew none ([] : List (Int × Int))) := .inl rfl
       have HLm := hide (show ([(sa, sp)] ++ ([] : List (Int × Int))).length = 1 by simp)
       clear HOi HBi
       go_wp2
       go_region_law (first
        | (refine step_append_lay appF rfl _ _ rfl pq.v.heap.size _ [(sa, sp)] rfl F1.out none 0 pq.v.heap.size ([] : List (Int × Int)) 0 ?h1 rfl ?h2 FR.out ?h3 ?h4 ?_; (case h1 => rfl); (case h2 => (intro _; rfl)); (case h3 => (have := HLn.out; simp <;> omega)); (case h4 => (show pq.v.heap.size ≤ (pq.v.alloc _).heap.size; simp)); intro v8 w8 hv8 hg8 _; have hb8 := hide (B1.out.grown hg8 (by show pq.v.heap.size ≤ (pq.v.alloc _).heap.size; simp) (fun q h => (F1.out.lt q h).1)); obtain ⟨o8, c8, he8, hR8⟩ := ownL.open (L := layF) hv8; rw [HLm.out] at he8; subst he8; have HR8 := hide hR8; have HO8 := hide (own_kept OT.out hb8.out); have hn8 : Hid (o8 = none → c8 = 0) := rd_nn hR8 (by simp); clear hv8 hg8 hR8)
        | (refine step_append_lay appF rfl _ _ rfl v1.heap.size _ ([] : List (Int × Int)) rfl HO8.out o8 c8 w8.heap.size ([(sa, sp)] ++ ([] : List (Int × Int))) 1 HLm.out.symm rfl hn8.out HR8.out ?h3 ?h4 ?_; (case h3 => (have := HLn.out; simp <;> omega)); (case h4 => exact Nat.le_trans hszw hb8.out.size); intro v9 w9 hv9 hg9 _; have HR9 := hide (And.intro hv9 ((HBw.out.trans (hb8.out.mono hszw)).grown hg9 (Nat.le_trans hszw hb8.out.size) (fun q h => (HO8.out.lt q h).1))); clear hv9 hg9 HR8 HO8 hn8 hb8))
       all_goals (
        go_wp2
        go_roundw
        case rel => exact ⟨k + 1, hlt, by go_num, (by unfold Hid; rw [HN.out, insF, ← HJ.out]; exact HR9.out.1), HR9.out.2⟩
        case measure => simp [intOf]; omega)
     ·skip
      go_wp2
      go_loopw [5] (fun jv wi => ∃ j : Nat, j ≤ plF (sa, sp) L ∧ jv = .int .i64 j ∧ Hid (ownL layF 48 wi v1.heap.size (.slice (some ⟨g, 0, none⟩) n cc) L) ∧ Hid (Below v1.heap.size v1 wi))
       (fun jv _ => n - (intOf jv).toNat)
      case atStart => exact ⟨0, Nat.zero_le _, rfl, HO, HBr⟩
      case round =>
       clear HO HBr e0 e1 e2 ctr
       obtain ⟨j, hj, rfl, HOi, HBi⟩ := hrel
       by_cases hjn : j < n
       ·skip
        have hjL : j < L.length := by rw [HLn.out]; exact hjn
        have hjn' : (j : Int) < (n : Int) := by omega
        have hrr := rd_rowF HOi.out j hjL
        obtain ⟨xx, hxx⟩ : ∃ xx, L.getD j (0, 0) = xx := ⟨_, rfl⟩
        rw [hxx] at hrr
        have HXX := hide hxx
        clear hxx
        obtain ⟨xa, xp⟩ := xx
        have hgi : g < wr.heap.size := (HOi.out.lt g rfl).2
        have GA := Grown.cell hrr.1 hgi
        have GB := Grown.cell hrr.2 hgi
        have GT := Grown.cell ((HBi.out.cell (p := ⟨w.heap.size, 0, none⟩) zct).trans CT.out) (Nat.lt_of_lt_of_le zct HBi.out.size)
        have G0 := Grown.cell ((HBi.out.cell (p := ⟨b, off + k * 5, none⟩) hbv).trans E0.out) (Nat.lt_of_lt_of_le hbv HBi.out.size)
        have G1 := Grown.cell ((HBi.out.cell (p := ⟨b, off + k * 5 + 1, none⟩) hbv).trans E1.out) (Nat.lt_of_lt_of_le hbv HBi.out.size)
        have G2 := Grown.cell ((HBi.out.cell (p := ⟨b, off + k * 5 + 2, none⟩) hbv).trans E2.out) (Nat.lt_of_lt_of_le hbv HBi.out.size)
        clear hrr
        simp only at GA GB
        have HCm := hide (fun p : Grown wr => l1cmp_any xa xp sa sp p.v)
        have hcv : Hid (ltF (L.getD j (0, 0)) (sa, sp) = decide ((if xa = sa then cmpI xp sp else cmpI xa sa) < 0)) := by unfold Hid; rw [HXX.out]; rfl
        generalize (if xa = sa then cmpI xp sp else cmpI xa sa) = cv at HCm hcv
        by_cases hcl : cv < 0
        ·have HJ := hide (plF_step hj hjL (by rw [hcv.out]; exact decide_eq_true hcl))
         have hcd : decide (cv < 0) = true := decide_eq_true hcl
         go_wp2
         (refine wp_region_grown (by kernel_rfl) (by kernel_rfl) ?_; intro hne9; (repeat (go_big_quiet_step ((go_at_call 27; exact grown_of _ (HCm.out _))))); (with_reducible refine wpQuiet_nil ?_); intro _ hw9; obtain ⟨pq, hw8⟩ := hw9; subst hw8)
         go_wp2
         go_roundw
         case rel => exact ⟨j + 1, HJ.out, by go_num, own_kept HOi.out pq.b, HBi.out.trans (pq.b.mono HBi.out.size)⟩
         case measure => simp [intOf]; omega
        ·have HJ := hide (plF_stop hj (by rw [hcv.out]; exact decide_eq_false hcl))
         have hcd : decide (cv < 0) = false := decide_eq_false hcl
         go_wp2
         (refine wp_region_grown (by kernel_rfl) (by kernel_rfl) ?_; intro hne9; (repeat (go_big_quiet_step ((go_at_call 27; exact grown_of _ (HCm.out _))))); (with_reducible refine wpQuiet_nil ?_); intro _ hw9; obtain ⟨pq, hw8⟩ := hw9; subst hw8)
         clear GA GB GT G0 G1 G2 HCm hjn hjn' hjL hcd hcl hcv
         have HOw : Hid (ownL layF 48 pq.v v1.heap.size (.slice (some ⟨g, 0, none⟩) n cc) L) := own_kept HOi.out pq.b
         have HBw := hide (HBi.out.trans (pq.b.mono HBi.out.size))
         have hszw := HBw.out.size
         have e0 := (HBw.out.cell (p := ⟨b, off + k * 5, none⟩) hbv).trans E0.out
         have e1 := (HBw.out.cell (p := ⟨b, off + k * 5 + 1, none⟩) hbv).trans E1.out
         have e2 := (HBw.out.cell (p := ⟨b, off + k * 5 + 2, none⟩) hbv).trans E2.out
         have ctw := (HBw.out.cell (p := ⟨w.heap.size, 0, none⟩) zct).trans CT.out
         have F1 := hide (own_one pq.v sa sp)
         have B1 : Hid (Below pq.v.heap.size pq.v (pq.v.alloc (.cells #[.int .i64 sa, .int .i64 sp] 48)).drew) := ((Below.refl _ _).alloc (Nat.le_refl _) _).drew
         have f2 : j ≤ n := by have := HJ.out; omega
         have f1 : j ≤ cc := by have := HLn.out; omega
         have OT := hide (own_take HOw.out (j := j) (by rw [HLn.out]; exact f2))
         have FR : Hid (RdL layF pq.v.heap.size (pq.v.alloc (.cells #[.int .i64 sa, .int .i64 sp] 48)).drew (if cc = j then some ⟨g, 0, none⟩ else some ⟨g, j * 2, none⟩) (L.drop j)) := by
          have h := HOw.out.rd.kept B1.out (Nat.le_refl _)
          unfold Hid
          split
          ·left; exact List.drop_eq_nil_of_le (by have := HLn.out; omega)
          ·exact rd_dropF j _ (by simp [layF]) h
         have HLm := hide (show ([(sa, sp)] ++ (L.drop j)).length = n - j + 1 by simp; have := HLn.out; omega)
         clear HOi HBi
         go_wp2
         go_region_law (first
          | (refine step_append_lay appF rfl _ _ rfl pq.v.heap.size _ [(sa, sp)] rfl F1.out _ (cc - j) pq.v.heap.size (L.drop j) (n - j) ?h1 rfl ?h2 FR.out ?h3 ?h4 ?_; (case h1 => (have := HLn.out; simp; omega)); (case h2 => (intro h; split at h <;> cases h)); (case h3 => (have := HLn.out; simp <;> omega)); (case h4 => (show pq.v.heap.size ≤ (pq.v.alloc _).heap.size; simp)); intro v8 w8 hv8 hg8 _; have hb8 := hide (B1.out.grown hg8 (by show pq.v.heap.size ≤ (pq.v.alloc _).heap.size; simp) (fun q h => (F1.out.lt q h).1)); obtain ⟨o8, c8, he8, hR8⟩ := ownL.open (L := layF) hv8; rw [HLm.out] at he8; subst he8; have HR8 := hide hR8; have HO8 := hide (own_kept OT.out hb8.out); have hn8 : Hid (o8 = none → c8 = 0) := rd_nn hR8 (by simp); clear hv8 hg8 hR8)
          | (refine step_append_lay appF rfl _ _ rfl v1.heap.size _ (L.take j) rfl HO8.out o8 c8 w8.heap.size ([(sa, sp)] ++ (L.drop j)) (n - j + 1) HLm.out.symm rfl hn8.out HR8.out ?h3 ?h4 ?_; (case h3 => (have := HLn.out; simp <;> omega)); (case h4 => exact Nat.le_trans hszw hb8.out.size); intro v9 w9 hv9 hg9 _; have HR9 := hide (And.intro hv9 ((HBw.out.trans (hb8.out.mono hszw)).grown hg9 (Nat.le_trans hszw hb8.out.size) (fun q h => (HO8.out.lt q h).1))); clear hv9 hg9 HR8 HO8 hn8 hb8))
         all_goals (
          go_wp2
          go_roundw
          case rel => exact ⟨k + 1, hlt, by go_num, (by unfold Hid; rw [HN.out, insF, ← HJ.out]; exact HR9.out.1), HR9.out.2⟩
          case measure => simp [intOf]; omega)
       ·skip
        have hjn2 : j = n := by omega
        have HJ := hide (show j = plF (sa, sp) L by omega)
        have hjd : decide ((j : Int) < (n : Int)) = false := decide_eq_false (by omega)
        go_wp2
        (refine wp_region_grown (by kernel_rfl) (by kernel_rfl) ?_; intro hne9; (repeat (go_big_quiet_step ((fail)))); (with_reducible refine wpQuiet_nil ?_); intro _ hw9; obtain ⟨pq, hw8⟩ := hw9; subst hw8)
        clear hjn hjn2 hjd
        have HOw : Hid (ownL layF 48 pq.v v1.heap.size (.slice (some ⟨g, 0, none⟩) n cc) L) := own_kept HOi.out pq.b
        have HBw := hide (HBi.out.trans (pq.b.mono HBi.out.size))
        have hszw := HBw.out.size
        have e0 := (HBw.out.cell (p := ⟨b, off + k * 5, none⟩) hbv).trans E0.out
        have e1 := (HBw.out.cell (p := ⟨b, off + k * 5 + 1, none⟩) hbv).trans E1.out
        have e2 := (HBw.out.cell (p := ⟨b, off + k * 5 + 2, none⟩) hbv).trans E2.out
        have ctw := (HBw.out.cell (p := ⟨w.heap.size, 0, none⟩) zct).trans CT.out
        have F1 := hide (own_one pq.v sa sp)
        have B1 : Hid (Below pq.v.heap.size pq.v (pq.v.alloc (.cells #[.int .i64 sa, .int .i64 sp] 48)).drew) := ((Below.refl _ _).alloc (Nat.le_refl _) _).drew
        have f2 : j ≤ n := by have := HJ.out; omega
        have f1 : j ≤ cc := by have := HLn.out; omega
        have OT := hide (own_take HOw.out (j := j) (by rw [HLn.out]; exact f2))
        have FR : Hid (RdL layF pq.v.heap.size (pq.v.alloc (.cells #[.int .i64 sa, .int .i64 sp] 48)).drew (if cc = j then some ⟨g, 0, none⟩ else some ⟨g, j * 2, none⟩) (L.drop j)) := by
         have h := HOw.out.rd.kept B1.out (Nat.le_refl _)
         unfold Hid
         split
         ·left; exact List.drop_eq_nil_of_le (by have := HLn.out; omega)
         ·exact rd_dropF j _ (by simp [layF]) h
        have HLm := hide (show ([(sa, sp)] ++ (L.drop j)).length = n - j + 1 by simp; have := HLn.out; omega)
        clear HOi HBi
        go_wp2
        go_region_law (first
         | (refine step_append_lay appF rfl _ _ rfl pq.v.heap.size _ [(sa, sp)] rfl F1.out _ (cc - j) pq.v.heap.size (L.drop j) (n - j) ?h1 rfl ?h2 FR.out ?h3 ?h4 ?_; (case h1 => (have := HLn.out; simp; omega)); (case h2 => (intro h; split at h <;> cases h)); (case h3 => (have := HLn.out; simp <;> omega)); (case h4 => (show pq.v.heap.size ≤ (pq.v.alloc _).heap.size; simp)); intro v8 w8 hv8 hg8 _; have hb8 := hide (B1.out.grown hg8 (by show pq.v.heap.size ≤ (pq.v.alloc _).heap.size; simp) (fun q h => (F1.out.lt q h).1)); obtain ⟨o8, c8, he8, hR8⟩ := ownL.open (L := layF) hv8; rw [HLm.out] at he8; subst he8; have HR8 := hide hR8; have HO8 := hide (own_kept OT.out hb8.out); have hn8 : Hid (o8 = none → c8 = 0) := rd_nn hR8 (by simp); clear hv8 hg8 hR8)
         | (refine step_append_lay appF rfl _ _ rfl v1.heap.size _ (L.take j) rfl HO8.out o8 c8 w8.heap.size ([(sa, sp)] ++ (L.drop j)) (n - j + 1) HLm.out.symm rfl hn8.out HR8.out ?h3 ?h4 ?_; (case h3 => (have := HLn.out; simp <;> omega)); (case h4 => exact Nat.le_trans hszw hb8.out.size); intro v9 w9 hv9 hg9 _; have HR9 := hide (And.intro hv9 ((HBw.out.trans (hb8.out.mono hszw)).grown hg9 (Nat.le_trans hszw hb8.out.size) (fun q h => (HO8.out.lt q h).1))); clear hv9 hg9 HR8 HO8 hn8 hb8))
        all_goals (
         go_wp2
         go_roundw
         case rel => exact ⟨k + 1, hlt, by go_num, (by unfold Hid; rw [HN.out, insF, ← HJ.out]; exact HR9.out.1), HR9.out.2⟩
         case measure => simp [intOf]; omega)
   ·have e : k = l.length := by omega
    subst e
    have ctr := (HBr.out.cell (p := ⟨w.heap.size, 0, none⟩) zct).trans ct0
    clear ct0
    go_wp2
    go_ret
    exact ⟨_, rfl, by rw [HM.out]; exact own_mono HO.out hsv, HB.out.trans (HBr.out.mono hsv)⟩

end Go.Proofs.YtljogkoaaidlcaaDoor

/- A sorted row of flows is one alone. -/
namespace Go.Proofs.YtljogkoaaidlcaaDoor
open Go.ChangeShapes Go.WideShapes Go.ChangeAt Go.RowKit Go.Joins
set_option linter.unusedVariables false
set_option linter.unusedSimpArgs false

theorem cmpI_neg {x y : Int} : cmpI x y < 0 ↔ x < y := by
 unfold cmpI
 constructor
 ·intro h
  split at h
  ·assumption
  ·split at h <;> omega
 ·intro h
  rw [if_pos h]; decide
theorem ltF_iff {x y : Int × Int} : ltF x y = true ↔ (x.1 < y.1 ∨ (x.1 = y.1 ∧ x.2 < y.2)) := by
 unfold ltF
 rw [decide_eq_true_iff]
 by_cases h : x.1 = y.1
 ·rw [if_pos h, cmpI_neg]; omega
 ·rw [if_neg h, cmpI_neg]; omega
theorem ltF_false {x y : Int × Int} : ltF x y = false ↔ ¬ (x.1 < y.1 ∨ (x.1 = y.1 ∧ x.2 < y.2)) := by
 rw [← ltF_iff]; simp
theorem ltF_irrefl (x : Int × Int) : ltF x x = false := by rw [ltF_false]; omega
theorem ltF_trans {x y z : Int × Int} (h1 : ltF x y = true) (h2 : ltF y z = true) : ltF x z = true := by rw [ltF_iff] at *; omega
theorem ltF_ntrans {x y z : Int × Int} (h1 : ltF x y = false) (h2 : ltF y z = false) : ltF x z = false := by rw [ltF_false] at *; omega
theorem ltF_antisymm {x y : Int × Int} (h1 : ltF x y = false) (h2 : ltF y x = false) : x = y := by
 rw [ltF_false] at *
 have e1 : x.1 = y.1 := by omega
 have e2 : x.2 = y.2 := by omega
 exact Prod.ext e1 e2
theorem ltF_asymm {x y : Int × Int} (h : ltF x y = true) : ltF y x = false := by rw [ltF_iff] at h; rw [ltF_false]; omega
def SrtF (L : List (Int × Int)) : Prop := L.Pairwise (fun a b => ltF b a = false)
theorem insF_nil (f : Int × Int) : insF f [] = [f] := rfl
theorem insF_lt {f x : Int × Int} (L : List (Int × Int)) (h : ltF x f = true) : insF f (x :: L) = x :: insF f L := by
 have e : plF f (x :: L) = plF f L + 1 := by unfold plF; rw [List.takeWhile_cons, if_pos h]; rfl
 unfold insF
 rw [e, List.take_succ_cons, List.drop_succ_cons]; rfl
theorem insF_ge {f x : Int × Int} (L : List (Int × Int)) (h : ltF x f = false) : insF f (x :: L) = f :: x :: L := by
 have e : plF f (x :: L) = 0 := by unfold plF; rw [List.takeWhile_cons, if_neg (by rw [h]; decide)]; rfl
 unfold insF
 rw [e]; rfl
theorem insF_perm (f : Int × Int) : ∀ L : List (Int × Int), (insF f L).Perm (f :: L)
 | [] => List.Perm.refl _
 | x :: L => by
  cases h : ltF x f with
  | true => rw [insF_lt L h]; exact ((insF_perm f L).cons x).trans (List.Perm.swap f x L)
  | false => rw [insF_ge L h]
theorem insF_srt (f : Int × Int) : ∀ L : List (Int × Int), SrtF L → SrtF (insF f L)
 | [], _ => by rw [insF_nil]; exact List.pairwise_singleton _ _
 | x :: L, hs => by
  obtain ⟨h1, h2⟩ := List.pairwise_cons.1 hs
  cases h : ltF x f with
  | true =>
   rw [insF_lt L h]
   refine List.pairwise_cons.2 ⟨fun y hy => ?_, insF_srt f L h2⟩
   rcases List.mem_cons.1 ((insF_perm f L).mem_iff.1 hy) with e | e
   ·rw [e]; exact ltF_asymm h
   ·exact h1 y e
  | false =>
   rw [insF_ge L h]
   refine List.pairwise_cons.2 ⟨fun y hy => ?_, hs⟩
   rcases List.mem_cons.1 hy with e | e
   ·rw [e]; exact h
   ·exact ltF_ntrans (h1 y e) h
theorem foldF_ok : ∀ (fs L : List (Int × Int)), SrtF L → SrtF (fs.foldl (fun L f => insF f L) L) ∧ (fs.foldl (fun L f => insF f L) L).Perm (fs ++ L)
 | [], L, h => ⟨h, List.Perm.refl _⟩
 | f :: fs, L, h => by
  obtain ⟨h1, h2⟩ := foldF_ok fs (insF f L) (insF_srt f L h)
  refine ⟨h1, h2.trans ?_⟩
  exact ((insF_perm f L).append_left fs).trans List.perm_middle
theorem sortF_srt (fs : List (Int × Int)) : SrtF (sortF fs) := (foldF_ok fs [] List.Pairwise.nil).1
theorem sortF_perm (fs : List (Int × Int)) : (sortF fs).Perm fs := by have h := (foldF_ok fs [] List.Pairwise.nil).2; rwa [List.append_nil] at h
theorem srt_one : ∀ {A B : List (Int × Int)}, SrtF A → SrtF B → A.Perm B → A = B
 | [], B, _, _, h => h.nil_eq
 | a :: A, [], _, _, h => absurd h.length_eq (by simp)
 | a :: A, b :: B, hA, hB, h => by
  obtain ⟨a1, a2⟩ := List.pairwise_cons.1 hA
  obtain ⟨b1, b2⟩ := List.pairwise_cons.1 hB
  have e : a = b := by
   rcases List.mem_cons.1 (h.mem_iff.1 (List.mem_cons_self (a := a) (l := A))) with e | e
   ·exact e
   ·rcases List.mem_cons.1 (h.mem_iff.2 (List.mem_cons_self (a := b) (l := B))) with e2 | e2
    ·exact e2.symm
    ·exact ltF_antisymm (b1 a e) (a1 b e2)
  subst e
  rw [srt_one a2 b2 (List.Perm.cons_inv h)]

end Go.Proofs.YtljogkoaaidlcaaDoor

