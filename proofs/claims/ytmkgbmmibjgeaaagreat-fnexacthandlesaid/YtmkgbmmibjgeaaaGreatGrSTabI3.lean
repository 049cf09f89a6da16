/- Several texts in one: AppL, FlowL, STabI3. -/
import Derived.Test.YtmkgbmmibjgeaaaGreatGrFr
import Derived.Laws.AppendOwnNone
import Derived.Maps.AppendAt
import Derived.Test.YtmkgbmmibjgeaaaGreatGrSTabI2
/- 'append' onto a row of the call's own, whatever its elements are and whatever is appended: nil, empty, or read from memory. -/
namespace Go.Proofs.YtmkgbmmibjgeaaaGreat
open Go.ChangeShapes Go.WideShapes Go.ChangeAt Go.RowKit Go.Joins
set_option linter.unusedVariables false
set_option linter.unusedSimpArgs false

variable {α : Type}

/-- What the program says of a slice type t whose elements (type e) lie as L says. -/
structure AppOk (L : Lay α) (t e : TypeId) : Prop where
  under : Tryz.prog.underlying t = some (.slice e)
  info : ∃ z bytes, (Tryz.prog.info? e).map (fun i => (i.zero, i.size, i.bytes)) = some (some z, L.k, bytes) ∧ z.cells.size = L.k ∧ bytes ≤ 1024
  pos : 0 < L.k
  one : ∀ a, ∀ u ∈ L.cs a, u.oneCell' = true

theorem RdL.empty0 {L : Lay α} {C : Nat} {w : World} {l : List α} (h : RdL L C w none l) : l = [] := by
  rcases h with h | ⟨b, off, h, _⟩
  · exact h
  · cases h
theorem RdL.news {L : Lay α} {C : Nat} {w : World} {ad : Addr} {l : List α} (hk : 0 < L.k) (h : RdL L C w (some ad) l) : ∀ j u, (l.flatMap L.cs)[j]? = some u → w.cell? (ad.add j) = some u := by
  intro j u hj
  rcases h with h | ⟨b, off, ho, hlt, r⟩
  · subst h; simp at hj
  · obtain rfl : ad = ⟨b, off, none⟩ := by simpa using ho
    have hlen : j < l.length * L.k := by
      have := (List.getElem?_eq_some_iff.1 hj).1
      rwa [flat_length] at this
    have hjm : j % L.k < L.k := Nat.mod_lt _ hk
    have hjd : j / L.k < l.length := by rw [Nat.div_lt_iff_lt_mul hk]; exact hlen
    have e : j = j / L.k * L.k + j % L.k := by rw [Nat.mul_comm]; exact (Nat.div_add_mod j L.k).symm
    have hg := flat_get L l (j / L.k) (j % L.k) hjd hjm
    rw [← e, hj] at hg
    have hr := r (j / L.k) hjd (j % L.k) hjm
    rw [← hg, Nat.add_assoc, ← e] at hr
    have e2 : (⟨b, off, none⟩ : Addr).add j = ⟨b, off + j, none⟩ := by by_cases h : j = 0 <;> simp [Addr.add, h]
    rw [e2]; exact hr
theorem flat_one' {L : Lay α} (h : ∀ a, ∀ u ∈ L.cs a, u.oneCell' = true) (l : List α) : ∀ u ∈ l.flatMap L.cs, u.oneCell' = true := by
  intro u hu
  obtain ⟨a, _, ha⟩ := List.mem_flatMap.1 hu
  exact h a u ha

theorem run_append_lay {L : Lay α} {t e : TypeId} (ok : AppOk L t e) {w : World} (ty : TypeId) (base : Nat) (v : Value) (l0 : List α) (hown : ownL L e w base v l0)
    (ob : Option Addr) (c C : Nat) (l : List α) (hnil : ob = none → c = 0) (hR : RdL L C w ob l) (hlen : l0.length + l.length ≤ 1073741824) (hbase : base ≤ w.heap.size) :
    ∃ v' w', (Builtin.append_ #[t, t] ty #[v, .slice ob l.length c]).run Tryz.prog w = .ok v' w' ∧ ownL L e w' base v' (l0 ++ l) ∧ w.grownBy w' v.ownBlock ∧ (v'.ownBlock = v.ownBlock ∨ v'.ownBlock = some w.heap.size) := by
  obtain ⟨z, bytes, hinfo, hzs, hby⟩ := ok.info
  obtain ⟨i0, hi, hz0, hz1, hz2⟩ := info_parts hinfo
  cases ob with
  | none =>
    have e := hR.empty0
    subst e
    have hc := hnil rfl
    subst hc
    exact ⟨v, w, run_append_owned_none (P := Tryz.prog) (w := w) base t ty _ i0 L.k ok.under hi v _ _ hown, by simpa using hown, World.grownBy.refl _ _, .inl rfl⟩
  | some ad =>
    obtain ⟨v', w', h1, h2, h3, _, h5⟩ := run_append_own_at (P := Tryz.prog) w base t ty _ i0 z L.k bytes ok.under hi hz0 hz1 hz2 hzs ok.pos v _ _ hown ad l.length c (l.flatMap L.cs) (flat_length L l) (hR.news ok.pos) (flat_one' ok.one l)
      (by unfold maxLen; omega) (by have : (l0.length + l.length) * bytes ≤ 1073741824 * 1024 := Nat.mul_le_mul hlen hby; omega) hbase
    exact ⟨v', w', h1, by unfold ownL; simpa using h2, h3, h5⟩

/-- As one step of a region that draws its order. -/
theorem step_append_lay {L : Lay α} {t e : TypeId} (ok : AppOk L t e) {ops : Array Oper} {o : Oper} {a : Act} {w : World} {K : Act → World → Prop} {Q : Exit → Act → World → Prop} {E : Prop} (hgd : o.guard = none) (s x : Operand)
    (ho : o.op = .call { callee := .builtin .append, args := #[s, x], argTypes := #[t, t] }) (base : Nat) (v : Value) (l0 : List α) (hs : a.eval s = v) (hown : ownL L e w base v l0)
    (ob : Option Addr) (c C : Nat) (l : List α) (m : Nat) (hm : m = l.length) (hx : a.eval x = .slice ob m c) (hnil : ob = none → c = 0) (hR : RdL L C w ob l) (hlen : l0.length + l.length ≤ 1073741824) (hbase : base ≤ w.heap.size)
    (h : ∀ v' w', ownL L e w' base v' (l0 ++ l) → w.grownBy w' v.ownBlock → (v'.ownBlock = v.ownBlock ∨ v'.ownBlock = some w.heap.size) → K (a.put o.dst v') w') : if Region.wanted o (yielded ops a.tmps) = true then Oper.wp Tryz.prog o a w K Q else E := by
  subst hm
  have hw : Region.wanted o (yielded ops a.tmps) = true := by simp [Region.wanted, hgd]
  rw [if_pos hw]
  obtain ⟨v', w', hr, h1, h2, h3⟩ := run_append_lay ok o.type base v l0 hown ob c C l hnil hR hlen hbase
  unfold Oper.wp execOp
  simp only [ho, resolve, invoke, builtin, Sem.run_bind, Sem.run_pure, Result.andThen_ok, List.map_toArray, List.map_cons, List.map_nil, hs, hx, hr]
  exact h v' w' h1 h2 h3

/-- In a row of operations that draws none. -/
theorem wpList_append_lay {L : Lay α} {t e : TypeId} (ok : AppOk L t e) {w : World} {ops : Array Oper} {rest : List Oper} {o : Oper} {a : Act} {Q : Exit → Act → World → Prop} (hgd : o.guard = none) (s x : Operand)
    (ho : o.op = .call { callee := .builtin .append, args := #[s, x], argTypes := #[t, t] }) (base : Nat) (v : Value) (l0 : List α) (hs : a.eval s = v) (hown : ownL L e w base v l0)
    (ob : Option Addr) (c C : Nat) (l : List α) (m : Nat) (hm : m = l.length) (hx : a.eval x = .slice ob m c) (hnil : ob = none → c = 0) (hR : RdL L C w ob l) (hlen : l0.length + l.length ≤ 1073741824) (hbase : base ≤ w.heap.size)
    (h : ∀ v' w', ownL L e w' base v' (l0 ++ l) → w.grownBy w' v.ownBlock → (v'.ownBlock = v.ownBlock ∨ v'.ownBlock = some w.heap.size) → wpList Tryz.prog ops Q rest (a.put o.dst v') w') : wpList Tryz.prog ops Q (o :: rest) a w := by
  subst hm
  refine wpList_plain hgd fun K hK => ?_
  obtain ⟨v', w', hr, h1, h2, h3⟩ := run_append_lay ok o.type base v l0 hown ob c C l hnil hR hlen hbase
  unfold Oper.wp execOp
  simp only [ho, resolve, invoke, builtin, Sem.run_bind, Sem.run_pure, Result.andThen_ok, List.map_toArray, List.map_cons, List.map_nil, hs, hx, hr]
  exact hK _ _ (h v' w' h1 h2 h3)

/-- An empty row, as a literal lays it. -/
theorem own_none0 {L : Lay α} (w : World) (e : TypeId) : ownL L e (w.alloc (.cells #[] e)) w.heap.size (.slice (some ⟨w.heap.size, 0, none⟩) 0 0) ([] : List α) :=
  ⟨by simp, .inr ⟨w.heap.size, 0, #[], rfl, Nat.le_refl _, heap_alloc_new w _, Nat.le_refl _, by unfold maxLen; omega, by simp, by simp⟩⟩
theorem own_none1 (w : World) (e : TypeId) (k : Nat) : (w.alloc (.cells #[] e)).ownsRow w.heap.size e k (.slice (some ⟨w.heap.size, 0, none⟩) 0 0) 0 [] :=
  ⟨by simp, .inr ⟨w.heap.size, 0, #[], rfl, Nat.le_refl _, heap_alloc_new w _, Nat.le_refl _, by unfold maxLen; omega, by simp, by simp⟩⟩

end Go.Proofs.YtmkgbmmibjgeaaaGreat

/- Rows of flows, in the words of Lists: how they lie, and 'append' onto them. -/
namespace Go.Proofs.YtmkgbmmibjgeaaaGreat
open Go.ChangeShapes Go.WideShapes Go.ChangeAt Go.RowKit Go.Joins
set_option linter.unusedVariables false
set_option linter.unusedSimpArgs false

def layF : Lay (Int × Int) := ⟨2, fun a => [.int .i64 a.1, .int .i64 a.2], (0, 0), fun _ => rfl⟩
theorem infoFlow : (Tryz.prog.info? 45).map (fun i => (i.zero, i.size, i.bytes)) = some (some (.agg #[.int .i64 0, .int .i64 0]), 2, 16) := by kernel_rfl
theorem appF : AppOk layF 154 45 := ⟨Tryz.underlying154, ⟨_, _, infoFlow, rfl, by decide⟩, by decide, fun a u hu => by
  simp [layF] at hu; rcases hu with rfl | rfl <;> rfl⟩
theorem rd_flow1 (w : World) (x y : Int) : RdL layF (w.alloc (.cells #[.int .i64 x, .int .i64 y] 45)).heap.size (w.alloc (.cells #[.int .i64 x, .int .i64 y] 45)) (some ⟨w.heap.size, 0, none⟩) [(x, y)] := by
  refine .inr ⟨w.heap.size, 0, rfl, by simp, fun i hi j hj => ?_⟩
  have hi0 : i = 0 := by simpa using hi
  have hj0 : j < 2 := hj
  subst hi0
  match j, hj0 with
  | 0, _ => simp [layF]
  | 1, _ => simp [layF]

end Go.Proofs.YtmkgbmmibjgeaaaGreat

/- The program's flows, CountOf. -/
namespace Go.Proofs.YtmkgbmmibjgeaaaGreat
open Go.ChangeShapes Go.WideShapes Go.ChangeAt Go.RowKit Go.Joins
set_option linter.unusedVariables false
set_option linter.unusedSimpArgs false

/-- The flows of the first k that are used. -/
def flowsTo (l : List Sl) (k : Nat) : List (Int × Int) := ((l.take k).filter (fun s => s.u)).map (fun s => (s.a, s.p))
theorem flowsTo_len (l : List Sl) (k : Nat) : (flowsTo l k).length = countTo l k := by unfold flowsTo countTo; rw [List.length_map]
theorem flowsTo_free {l : List Sl} {k : Nat} (h : k < l.length) (hu : (l.getD k sl0).u = false) : flowsTo l (k + 1) = flowsTo l k := by
  unfold flowsTo
  rw [takeL_succ layS l k h, List.filter_append, show List.filter (fun s : Sl => s.u) [l.getD k layS.d] = [] from List.filter_cons_of_neg (by rw [show l.getD k layS.d = l.getD k sl0 from rfl, hu]; decide), List.append_nil]
theorem flowsTo_used {l : List Sl} {k : Nat} (h : k < l.length) (hu : (l.getD k sl0).u = true) : flowsTo l (k + 1) = flowsTo l k ++ [((l.getD k sl0).a, (l.getD k sl0).p)] := by
  unfold flowsTo
  rw [takeL_succ layS l k h, List.filter_append, show List.filter (fun s : Sl => s.u) [l.getD k layS.d] = [l.getD k sl0] from List.filter_cons_of_pos hu, List.map_append]; rfl

set_option maxHeartbeats 4000000 in
theorem flows_any (b off c : Nat) (l : List Sl) (w : World) (hbl : b < w.heap.size) (hc : ∀ i, i < l.length → ∀ j, j < layS.k → w.cell? ⟨b, off + i * layS.k + j, none⟩ = (layS.cs (l.getD i layS.d))[j]?) (hl : l.length ≤ 1048576) :
    Calls Tryz.prog 109 #[tab (.slice (some ⟨b, off, none⟩) l.length c)] w fun e w' => ∃ v, e = .returned v ∧ ownL layF 45 w' w.heap.size v (flowsTo l l.length) ∧ Below w.heap.size w w' := by
  have HC := hide hc
  clear hc
  obtain ⟨W0, hW0⟩ : ∃ W, (w.alloc (.cells #[.slice (some ⟨b, off, none⟩) l.length c] 69)) = W := ⟨_, rfl⟩
  have hb_W0 : Below w.heap.size w W0 := by rw [← hW0]; exact ((Below.refl _ _).alloc (Nat.le_refl _) _)
  have HB := hide hb_W0
  clear hb_W0
  have zct : w.heap.size < W0.heap.size := by rw [← hW0]; simp
  have ct0 : W0.cell? ⟨w.heap.size, 0, none⟩ = some (.slice (some ⟨b, off, none⟩) l.length c) := by rw [← hW0]; simp [go_sem]
  have HZ := hide HB.out.size
  go_enter Tryz.func109, Tryz.ntmps109
  go_wp2
  go_loopw [3, 9] (fun ov iv wr => ∃ k : Nat, k ≤ l.length ∧ iv = .int .i64 k ∧ Hid (ownL layF 45 wr W0.heap.size ov (flowsTo l k)) ∧ Hid (Below W0.heap.size W0 wr))
    (fun _ iv _ => l.length - (intOf iv).toNat)
  case atStart => exact ⟨0, Nat.zero_le _, rfl, World.ownsRow_nil _ _ _ _, Below.refl _ _⟩
  case round =>
    obtain ⟨k, hk, rfl, HO, HBr⟩ := hrel
    by_cases hlt : k < l.length
    · have HB2 := hide (HB.out.trans (HBr.out.mono HB.out.size))
      have hcx := RdL.slot (C := w.heap.size) HC.out k hlt
      obtain ⟨s, hxy⟩ : ∃ s, l.getD k sl0 = s := ⟨_, rfl⟩
      rw [hxy] at hcx
      have e0 := (HB2.out.cell (p := ⟨b, off + k * 5, none⟩) hbl).trans hcx.1
      have e1 := (HB2.out.cell (p := ⟨b, off + k * 5 + 1, none⟩) hbl).trans hcx.2.1
      have e2 := (HB2.out.cell (p := ⟨b, off + k * 5 + 2, none⟩) hbl).trans hcx.2.2.1
      have e3 := (HB2.out.cell (p := ⟨b, off + k * 5 + 3, none⟩) hbl).trans hcx.2.2.2.1
      have e4 := (HB2.out.cell (p := ⟨b, off + k * 5 + 4, none⟩) hbl).trans hcx.2.2.2.2
      have hk' : (k : Int) < (l.length : Int) := by omega
      have HX := hide hxy
      have hcl := countTo_le l k
      rw [← flowsTo_len] at hcl
      obtain ⟨su, sa, sp, sv, st⟩ := s
      simp only at e0 e1 e2 e3 e4
      clear hcx hxy
      have HBa := hide (HBr.out.alloc HBr.out.size (.cells #[.bool su, .int .i64 sa, .int .i64 sp, .int .i64 sv, .int .i64 st] 132))
      have HOa := hide (World.ownsRow.alloc HO.out (.cells #[.bool su, .int .i64 sa, .int .i64 sp, .int .i64 sv, .int .i64 st] 132))
      cases su with
      | false =>
        have HN := hide (flowsTo_free hlt (by rw [HX.out]))
        go_wp2
        go_roundw
        case rel => exact ⟨k + 1, hlt, by go_num, (by unfold Hid; rw [HN.out]; exact HOa.out), HBa⟩
        case measure => simp [intOf]; omega
      | true =>
        have HN := hide (flowsTo_used hlt (by rw [HX.out]))
        rw [HX.out] at HN
        obtain ⟨W1, hW1⟩ : ∃ W, wr.alloc (.cells #[.bool true, .int .i64 sa, .int .i64 sp, .int .i64 sv, .int .i64 st] 132) = W := ⟨_, rfl⟩
        rw [hW1] at HBa HOa
        have g0 : W1.cell? ⟨wr.heap.size, 0, none⟩ = some (.bool true) := by rw [← hW1]; simp [go_sem]
        have g1 : W1.cell? ⟨wr.heap.size, 1, none⟩ = some (.int .i64 sa) := by rw [← hW1]; simp [go_sem]
        have g2 : W1.cell? ⟨wr.heap.size, 2, none⟩ = some (.int .i64 sp) := by rw [← hW1]; simp [go_sem]
        have F := hide (World.ownsRow.alloc HOa.out (.cells #[.int .i64 sa, .int .i64 sp] 45))
        clear HO HBr
        go_wp2_with (at_builtin; refine wpList_append_lay appF rfl _ _ rfl W0.heap.size _ (flowsTo l k) rfl F.out (some ⟨W1.heap.size, 0, none⟩) 1 _ [(sa, sp)] 1 rfl rfl (fun h => by cases h) (rd_flow1 W1 sa sp) ?e2 ?e3 ?_)
        case e2 => omega
        case e3 => exact Nat.le_trans HBa.out.size (by simp)
        intro v2 w2 hv2 hg2 _
        have HR := hide (show ownL layF 45 w2 W0.heap.size v2 (flowsTo l (k + 1)) ∧ Below W0.heap.size W0 w2 from ⟨by rw [HN.out]; exact hv2, (HBa.out.alloc HBa.out.size _).grown hg2 (Nat.le_trans HBa.out.size (by simp)) (fun q h => (F.out.lt q h).1)⟩)
        clear hv2 hg2 F
        go_wp2
        go_roundw
        case rel => exact ⟨k + 1, hlt, by go_num, HR.out.1, HR.out.2⟩
        case measure => simp [intOf]; omega
    · have e : k = l.length := by omega
      subst e
      go_wp2
      go_ret
      exact ⟨_, rfl, own_mono HO.out HZ.out, HB.out.trans (HBr.out.mono HB.out.size)⟩

end Go.Proofs.YtmkgbmmibjgeaaaGreat

