/- Several texts in one: LMarkP, LMarkG, ShPk, OpenB. -/
import Derived.Maps.AppendAt
import Derived.Test.YtajfkcpifnpkeaaGreatQRouteOf39
import Derived.Test.YtajfkcpifnpkeaaGreatQRouteOf29
import Derived.Test.YtajfkcpifnpkeaaGreatQRouteOf21
/- The laws' marks in a packet. -/
namespace Go.Proofs.YtajfkcpifnpkeaaGreat
open Go.ChangeShapes Go.WideShapes Go.ChangeAt Go.RowKit Go.Joins
set_option linter.unusedVariables false
set_option linter.unusedSimpArgs false

set_option maxHeartbeats 1000000 in
theorem markPacket_any (base : Nat) (a b f s : Int) (v : Value) (l : List Int) (k : Int) (w : World) (hv : ownB w base v l) (h0 : 0 ≤ k) (h1 : k ≤ 1073741824) (hlen : l.length ≤ 1048576) :
    Calls Tryz.prog 27 #[pkt a b f s v, .int .i64 k] w fun e w' => e = .returned (.int .i64 (k + l.length)) ∧ ownB w' base v (markL k l.length) ∧ w.grownBy w' v.ownBlock := by
  have hv1 := fun o => World.ownsRow.alloc hv o
  have HA := hide (fun o => World.grownBy_alloc w o v.ownBlock)
  have HV := hide hv1
  clear hv1 hv
  go_enter Tryz.func27, Tryz.ntmps27
  go_wp2_with fail
  refine (markByteS_any base v l k _ (HV.out _) h0 h1 hlen).mono ?_
  rintro e w1 ⟨rfl, hown, hgr⟩
  have HO := hide hown
  have HG := hide ((HA.out _).trans hgr)
  clear hown hgr HV HA
  go_wp2
  go_ret
  exact ⟨rfl, HO.out, HG.out⟩

end Go.Proofs.YtajfkcpifnpkeaaGreat

/- The laws' marks in a row of impl.Seg. -/
namespace Go.Proofs.YtajfkcpifnpkeaaGreat
open Go.ChangeShapes Go.WideShapes Go.ChangeAt Go.RowKit Go.Joins
set_option linter.unusedVariables false
set_option linter.unusedSimpArgs false

def mkSeg (k : Int) := ((k, k + 1) : _)

set_option maxHeartbeats 2000000 in
theorem markSegS_any (base : Nat) (v : Value) (l : List _) (k : Int) (w : World) (hv : ownL layG 126 w base v l) (h0 : 0 ≤ k) (h1 : k ≤ 1073741824) (hlen : l.length ≤ 1048576) :
    Calls Tryz.prog 28 #[v, .int .i64 k] w fun e w' => e = .returned (.int .i64 (k + 2 * l.length)) ∧ ownL layG 126 w' base v (mkL mkSeg 2 k l.length) ∧ w.grownBy w' v.ownBlock := by
  rcases hv.2 with ⟨rfl, h2⟩ | ⟨g, cap, cur, rfl, hg, _⟩
  · have e : l = [] := List.eq_nil_of_length_eq_zero h2
    subst e
    go_enter Tryz.func28, Tryz.ntmps28
    go_wp2
    refine wp_loop_rounds 1 ?_
    rw [rounds_succ]
    go_wp2
    go_ret
    exact ⟨by simp, by simpa [mkL] using hv, World.grownBy.refl _ _⟩
  · have hv0 : w.ownsRow base 126 2 (.slice (some ⟨g, 0, none⟩) l.length cap) l.length ((mkTo mkSeg 2 l k 0).flatMap layG.cs) := by rw [mkTo_zero]; exact hv
    go_enter Tryz.func28, Tryz.ntmps28
    go_wp2
    go_loopw [1, 5] (fun q j wr => ∃ i : Nat, i ≤ l.length ∧ j = .int .i64 i ∧ q = .int .i64 (k + 2 * (i : Int)) ∧ wr.ownsRow base 126 2 (.slice (some ⟨g, 0, none⟩) l.length cap) l.length ((mkTo mkSeg 2 l k i).flatMap layG.cs) ∧ w.grownBy wr (some g))
      (fun _ j _ => l.length - (intOf j).toNat)
    case atStart => exact ⟨0, Nat.zero_le _, rfl, by simp, hv0, World.grownBy.refl _ _⟩
    case round =>
      obtain ⟨i, hi, rfl, rfl, hown, hgr⟩ := hrel
      by_cases hlt : i < l.length
      · have hxl : ((mkTo mkSeg 2 l k i).flatMap layG.cs).length = l.length * 2 := by rw [flat_length, mkTo_length _ _ _ _ _ hi]; rfl
        have E := flat_set2 layG rfl (a := mkSeg (k + 2 * (i : Int))) rfl (mkTo mkSeg 2 l k i) i
        have E2 := mkTo_set mkSeg 2 l k i hlt
        generalize hxs : (mkTo mkSeg 2 l k i).flatMap layG.cs = xs at *
        have s1 := grown_set1 (j := i * 2) (u := .int .i64 (k + 2 * (i : Int))) hown hgr
        have s2 := grown_set1 (j := i * 2 + 1) (u := .int .i64 (k + 2 * (i : Int) + 1)) s1.1 s1.2
        have f0 := hown.frozenAt (i * 2)
        obtain ⟨q0, hq0⟩ : ∃ z, wr.cell? ⟨g, i * 2, none⟩ = some z := ⟨_, (hown.cellAt (i * 2) (by omega)).trans (List.getElem?_eq_getElem (by (try simp) <;> omega))⟩
        have f1 := s1.1.frozenAt (i * 2 + 1)
        obtain ⟨q1, hq1⟩ : ∃ z, (wr.setCell ⟨g, i * 2, none⟩ (.int .i64 (k + 2 * (i : Int)))).cell? ⟨g, i * 2 + 1, none⟩ = some z := ⟨_, (s1.1.cellAt (i * 2 + 1) (by omega)).trans (List.getElem?_eq_getElem (by (try simp) <;> omega))⟩
        have S := hide s2
        have HE := hide (E.trans (congrArg (fun z => List.flatMap layG.cs z) E2))
        have z1 : (i : Int) < (l.length : Int) := by omega
        clear s1 s2 hown hgr hv hv0 E E2 hxl
        go_wp2
        go_roundw
        case rel =>
          refine ⟨i + 1, by omega, by go_num, by go_num, ?_, S.out.2⟩
          have h := S.out.1
          rw [← HE.out]
          exact h
        case measure => simp [intOf]; omega
      · have e : i = l.length := by omega
        subst e
        rw [mkTo_all] at hown
        have HO := hide hown
        clear hown
        go_wp2
        go_ret
        exact ⟨rfl, (by have := HO.out; unfold ownL; rw [mkL_length]; exact this), hgr⟩

set_option maxHeartbeats 2000000 in
theorem heldSegS_any (o : Option Addr) (cap n C : Nat) (k : Int) (w : World) (hR : RdL layG C w o (mkL mkSeg 2 k n)) (h0 : 0 ≤ k) (h1 : k ≤ 1073741824) (hlen : n ≤ 1048576) :
    Calls Tryz.prog 29 #[.slice o n cap, .int .i64 k] w fun e w' => e = .returned (.int .i64 (k + 2 * n)) ∧ w = w' := by
  go_enter Tryz.func29, Tryz.ntmps29
  go_wp2
  go_loop [1, 5] (fun q j => ∃ i : Nat, i ≤ n ∧ j = .int .i64 i ∧ q = .int .i64 (k + 2 * (i : Int)))
    (fun _ j => n - (intOf j).toNat)
  case atStart => exact ⟨0, Nat.zero_le _, rfl, by simp⟩
  case round =>
    obtain ⟨i, hi, rfl, rfl⟩ := hrel
    by_cases hlt : i < n
    · rcases hR with hR | ⟨b, off, rfl, hbl, hcell⟩
      · have := mkL_length mkSeg 2 k n; rw [hR] at this; simp at this; omega
      have hc := hcell i (by rw [mkL_length]; exact hlt)
      rw [mkL_get _ _ _ _ _ _ hlt] at hc
      have c0 : w.cell? ⟨b, off + i * 2, none⟩ = some (.int .i64 (k + 2 * (i : Int))) := hc 0 (by decide)
      have c1 : w.cell? ⟨b, off + i * 2 + 1, none⟩ = some (.int .i64 (k + 2 * (i : Int) + 1)) := hc 1 (by decide)
      clear hcell hc
      go_wp2
      go_round
      case rel => exact ⟨i + 1, by omega, by go_num, by go_num⟩
      case measure => simp [intOf]; omega
    · have e : i = n := by omega
      subst e
      go_wp2
      go_ret
      exact ⟨rfl, rfl⟩

end Go.Proofs.YtajfkcpifnpkeaaGreat

/- Packets, as a shape; rows of segs in the laws' words. -/
namespace Go.Proofs.YtajfkcpifnpkeaaGreat
open Go.ChangeShapes Go.WideShapes Go.ChangeAt Go.RowKit Go.Joins
set_option linter.unusedVariables false
set_option linter.unusedSimpArgs false


/-- A packet, as the model has it. -/
structure Pk where
  a : Int
  b : Int
  f : Int
  s : Int
  l : List Int
def RdPk (C : Nat) (w : World) (v : Value) (m : Pk) : Prop := ∃ vl, v = pkt m.a m.b m.f m.s vl ∧ RdV layB C w vl m.l
def InPk (lo hi : Nat) (w : World) (v : Value) (m : Pk) : Prop := ∃ vl, v = pkt m.a m.b m.f m.s vl ∧ InB lo hi w vl m.l
theorem RdPk.kept {C D : Nat} {w w' : World} {v : Value} {m : Pk} (h : RdPk C w v m) (hb : Below D w w') (hc : C ≤ D) : RdPk C w' v m := by
  obtain ⟨vl, e, h1⟩ := h
  exact ⟨vl, e, h1.kept hb hc⟩
theorem RdPk.le {C D : Nat} {w : World} {v : Value} {m : Pk} (h : RdPk C w v m) (hc : C ≤ D) : RdPk D w v m := by
  obtain ⟨vl, e, h1⟩ := h
  exact ⟨vl, e, h1.le hc⟩
theorem InPk.rd {lo hi : Nat} {w : World} {v : Value} {m : Pk} (h : InPk lo hi w v m) : RdPk hi w v m := by
  obtain ⟨vl, e, h1⟩ := h
  exact ⟨vl, e, InL.rd (L := layB) h1⟩
theorem InPk.step {a b lo hi : Nat} {w w' : World} {v : Value} {m : Pk} (h : InPk a b w v m) (s : Stp lo hi w w') (hd : hi ≤ a ∨ b ≤ lo) : InPk a b w' v m := by
  obtain ⟨vl, e, h1⟩ := h
  exact ⟨vl, e, InRow.step h1 s hd⟩
theorem RdPk.opn {C : Nat} {w : World} {v : Value} {m : Pk} (h : RdPk C w v m) : ∃ (o : Option Addr) (c : Nat), v = pkt m.a m.b m.f m.s (.slice o m.l.length c) := by
  obtain ⟨vl, e, o, c, e1, _⟩ := h
  exact ⟨o, c, by rw [e, e1]⟩
theorem RdPk.mk {w : World} {a b f s : Int} {o : Option Addr} {c : Nat} {l : List Int} (h : Rd w o l) : RdPk w.heap.size w (pkt a b f s (.slice o l.length c)) ⟨a, b, f, s, l⟩ := ⟨_, rfl, o, c, rfl, RdB_rd.2 h⟩
theorem toPacket_sh (v : Value) (m : Pk) (w : World) (hR : RdPk w.heap.size w v m) (hB8 : isB m.l) (hl : m.l.length ≤ 1048576) :
    Calls Tryz.prog 23 #[v] w fun e w' => ∃ v', e = .returned v' ∧ InPk w.heap.size w'.heap.size w' v' m ∧ Below w.heap.size w w' := by
  obtain ⟨vl, rfl, o, c, rfl, r⟩ := hR
  refine (toPacket_any m.a m.b m.f m.s o c m.l w (RdB_rd.1 r) hB8 hl).mono ?_
  rintro e w' ⟨g, rfl, ho, hb⟩
  exact ⟨_, rfl, ⟨_, rfl, InRow.of (ownB_lay.1 ho)⟩, hb⟩
theorem eqPacket_sh (v1 v2 : Value) (m : Pk) (w : World) (h1 : RdPk w.heap.size w v1 m) (h2 : RdPk w.heap.size w v2 m) (hl : m.l.length ≤ 1048576) :
    Calls Tryz.prog 26 #[v1, v2] w fun e w' => e = .returned (.bool true) ∧ Below w.heap.size w w' := by
  obtain ⟨vl, rfl, o, c, rfl, r⟩ := h1
  obtain ⟨vl, rfl, o', c', rfl, r'⟩ := h2
  exact eqPacket_same m.a m.b m.f m.s o o' c c' m.l w (RdB_rd.1 r) (RdB_rd.1 r') hl
theorem markPacket_sh (lo hi : Nat) (v : Value) (m : Pk) (k : Int) (w : World) (hv : InPk lo hi w v m) (h0 : 0 ≤ k) (h1 : k ≤ 1073741824) (hl : m.l.length ≤ 1048576) :
    Calls Tryz.prog 27 #[v, .int .i64 k] w fun e w' => e = .returned (.int .i64 (k + m.l.length)) ∧ Stp lo hi w w' := by
  obtain ⟨vl, rfl, i1⟩ := hv
  refine (markPacket_any lo m.a m.b m.f m.s vl m.l k w (ownB_lay.2 i1.1) h0 h1 hl).mono ?_
  rintro e w' ⟨rfl, _, hg⟩
  exact ⟨rfl, Stp.grown hg (fun b e => ⟨(i1.1.lt b e).1, i1.2 b e⟩)⟩
abbrev InG := InL layG 126
theorem RdL.segs {w : World} {o : Option Addr} {l : List (Int × Int)} (h : RdL layG w.heap.size w o l) : RdG w o l := by
  rcases h with h | ⟨b, off, ho, hb, r⟩
  · exact .inl h
  · exact .inr ⟨b, off, ho, hb, fun i hi => ⟨r i hi 0 (by decide), r i hi 1 (by decide)⟩⟩
theorem eqSegS_sh (v1 v2 : Value) (l : List (Int × Int)) (w : World) (h1 : RdV layG w.heap.size w v1 l) (h2 : RdV layG w.heap.size w v2 l) (hl : l.length ≤ 1048576) :
    Calls Tryz.prog 25 #[v1, v2] w fun e w' => e = .returned (.bool true) ∧ Below w.heap.size w w' := by
  obtain ⟨o, c, rfl, r⟩ := h1
  obtain ⟨o', c', rfl, r'⟩ := h2
  exact eqSegS_same o o' c c' l w r.segs r'.segs hl
theorem markSegS_sh (lo hi : Nat) (v : Value) (l : List (Int × Int)) (k : Int) (w : World) (hv : InG lo hi w v l) (h0 : 0 ≤ k) (h1 : k ≤ 1073741824) (hl : l.length ≤ 1048576) :
    Calls Tryz.prog 28 #[v, .int .i64 k] w fun e w' => e = .returned (.int .i64 (k + 2 * l.length)) ∧ InG lo hi w' v (mkL mkSeg 2 k l.length) ∧ Stp lo hi w w' := by
  refine (markSegS_any lo v l k w hv.1 h0 h1 hl).mono ?_
  rintro e w' ⟨rfl, ho, hg⟩
  exact ⟨rfl, ⟨ho, hv.2⟩, Stp.grown hg (fun b e => ⟨(hv.1.lt b e).1, hv.2 b e⟩)⟩
theorem heldSegS_sh (v : Value) (n : Nat) (k : Int) (w : World) (hR : RdV layG w.heap.size w v (mkL mkSeg 2 k n)) (h0 : 0 ≤ k) (h1 : k ≤ 1073741824) (hl : n ≤ 1048576) :
    Calls Tryz.prog 29 #[v, .int .i64 k] w fun e w' => e = .returned (.int .i64 (k + 2 * n)) ∧ Below w.heap.size w w' := by
  obtain ⟨o, c, rfl, r⟩ := hR
  rw [mkL_length]
  refine (heldSegS_any o c n w.heap.size k w r h0 h1 hl).mono ?_
  rintro e w' ⟨rfl, rfl⟩
  exact ⟨rfl, Below.refl _ _⟩

end Go.Proofs.YtajfkcpifnpkeaaGreat

/- A balancer that came in. -/
namespace Go.Proofs.YtajfkcpifnpkeaaGreat
open Go.ChangeShapes Go.WideShapes Go.ChangeAt Go.RowKit Go.Joins
set_option linter.unusedVariables false
set_option linter.unusedSimpArgs false


theorem cellsLawsBal : Tryz.prog.cellsOf 33 = 7 := by kernel_rfl
theorem cellsIntB : Tryz.prog.cellsOf 3 = 1 := by kernel_rfl
theorem cellsLawsBackSB : Tryz.prog.cellsOf 25 = 1 := by kernel_rfl
theorem cellsIntSSSB : Tryz.prog.cellsOf 26 = 1 := by kernel_rfl
theorem array7 {α : Type} {cs : Array α} (h : cs.size = 7) : ∃ c0 c1 c2 c3 c4 c5 c6, cs = #[c0, c1, c2, c3, c4, c5, c6] := by
  match cs, h with
  | ⟨[c0, c1, c2, c3, c4, c5, c6]⟩, _ => exact ⟨c0, c1, c2, c3, c4, c5, c6, rfl⟩
set_option maxRecDepth 100000 in
set_option maxHeartbeats 1000000 in
theorem open_bal {H : Type} {enc : TypeId × Value → H} {W : World} {base : Nat} {v : Value} {d : DataW H} {p : List MemPlace}
    (hv : Value.okWide Tryz.prog W .any base 33 v) (h : DataW.Trod enc Tryz.prog W 0 (fun _ => true) true 33 v d p) :
    ∃ m : Bm, RdBm W.heap.size W v m ∧ lenBm m := by
  obtain ⟨cs, rfl, hsz⟩ := okWide_struct Tryz.underlying33 hv
  obtain ⟨c0, c1, c2, c3, c4, c5, c6, rfl⟩ := array7 (hsz.trans cellsLawsBal)
  obtain ⟨fuel, hf⟩ := h
  obtain ⟨y0, y1, y2, n, _, _, h0, h1, h2⟩ := Go.Deep.trod_struct3 (cs := [c0, c1, c2, c3, c4, c5, c6]) Tryz.underlying33 (by simpa [Value.cells] using hf)
  simp [cellsLawsJ, cellsLawsPool, cellsLawsT] at h0 h1 h2
  obtain ⟨z0, z1, z2, n0, _, _, q0, q1, q2⟩ := Go.Deep.trod_struct3 Tryz.underlying24 h0
  simp [cellsIntB, cellsLawsCmdS] at q0 q1 q2
  obtain ⟨t0, t1, t2, n1, _, _, r0, r1, r2⟩ := Go.Deep.trod_struct3 Tryz.underlying28 h1
  simp [cellsIntB, cellsLawsBackSB, cellsIntSSSB] at r0 r1 r2
  obtain ⟨a, e0, _, _⟩ := DataW.trod_int Tryz.underlying3 q0
  obtain ⟨o, cap, l, e1, l1, rd1⟩ := open_cmds_cells q1
  obtain ⟨b, e2, _, _⟩ := DataW.trod_int Tryz.underlying3 q2
  obtain ⟨k, e3, _, _⟩ := DataW.trod_int Tryz.underlying3 r0
  obtain ⟨o2, cap2, l2, e4, ll2, rd2⟩ := open_backs_cells r1
  obtain ⟨oR, cR, ll, e5, l3, rr, l4, l5⟩ := open_rows3_cells r2
  obtain ⟨o6, cap6, l6, e6, ll6, rd6⟩ := open_table_cells rfl h2
  simp at e0 e1 e2 e3 e4 e5 e6
  subst e0 e1 e2 e3 e4 e5 e6
  exact ⟨⟨⟨a, l, b⟩, ⟨k, l2, ll⟩, l6⟩, ⟨_, _, _, _, rfl, ⟨_, rfl, _, _, rfl, rd1⟩, ⟨_, _, rfl, RiV.of rd2, rr⟩, ⟨_, rfl, _, _, rfl, rd6⟩⟩, ⟨l1, ⟨ll2, l3, l4, l5⟩, ll6⟩⟩

end Go.Proofs.YtajfkcpifnpkeaaGreat

