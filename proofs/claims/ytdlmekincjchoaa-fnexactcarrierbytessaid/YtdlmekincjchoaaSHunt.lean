/- HuntPair, the model's. -/
import Derived.Test.YtdlmekincjchoaaShN
import Derived.Test.YtdlmekincjchoaaIntsA
namespace Go.Proofs.Ytdlmekincjchoaa
open Go.ChangeShapes Go.WideShapes Go.ChangeAt Go.RowKit Go.Joins
set_option linter.unusedVariables false
set_option linter.unusedSimpArgs false

/-- Whom the first k of the segs hunt. -/
def huntTo (g : List (Int × Int)) (k : Nat) : List Int := ((g.take k).filter (fun p => p.2 == 1)).map (fun p => p.1)
def huntM (m : Cm) : List Int := if m.ok then huntTo m.g m.g.length else []
theorem huntTo_len (g : List (Int × Int)) (k : Nat) : (huntTo g k).length ≤ k := by
  unfold huntTo
  rw [List.length_map]
  exact Nat.le_trans (List.length_filter_le _ _) (by simp; omega)
theorem huntTo_yes {g : List (Int × Int)} {k : Nat} {x y : Int} (hk : k < g.length) (h : g.getD k (0, 0) = (x, y)) (hy : (y == 1) = true) : huntTo g (k + 1) = huntTo g k ++ [x] := by
  unfold huntTo
  rw [takeG_succ g k hk, h, List.filter_append, List.map_append]
  simp [hy]
theorem huntTo_no {g : List (Int × Int)} {k : Nat} {x y : Int} (hk : k < g.length) (h : g.getD k (0, 0) = (x, y)) (hy : (y == 1) = false) : huntTo g (k + 1) = huntTo g k := by
  unfold huntTo
  rw [takeG_succ g k hk, h, List.filter_append, List.map_append]
  simp [hy]
theorem appI : AppOk layI 42 3 := ⟨Try.underlying42, ⟨_, _, infoInt, rfl, by decide⟩, by decide, fun a u hu => by
  simp [layI] at hu; rw [hu]; rfl⟩
theorem rd_int1 (w : World) (x : Int) : RdL layI (w.alloc (.cells #[.int .i64 x] 3)).heap.size (w.alloc (.cells #[.int .i64 x] 3)) (some ⟨w.heap.size, 0, none⟩) [x] := by
  refine .inr ⟨w.heap.size, 0, rfl, by simp, fun i hi j hj => ?_⟩
  have hi0 : i = 0 := by simpa using hi
  have hj0 : j = 0 := by have : j < 1 := hj; omega
  subst hi0 hj0
  have := World.alloc_heap_new w (.cells #[.int .i64 x] 3)
  simp [layI]

set_option maxRecDepth 100000 in
set_option maxHeartbeats 4000000 in
theorem specHunt_any (a b f s : Int) (o og : Option Addr) (len cap cg : Nat) (g : List (Int × Int)) (pl st : Int) (w : World) (hl : len ≤ maxLen) (hgl : g.length ≤ 1048576) (hG : RdG w og g) :
    Calls Try.prog 39 #[crr a b f s (.slice o len cap) (.slice og g.length cg) pl st] w fun e w' => ∃ v, e = .returned v ∧ ownL layI 3 w' w.heap.size v (if carrierOkB a b f s len g pl st then huntTo g g.length else []) ∧ Below w.heap.size w w' := by
  have hb0 : Below w.heap.size w (w.alloc (.cells #[.int .i64 a, .int .i64 b, .int .i64 f, .int .i64 s, .slice o len cap, .slice og g.length cg, .int .i64 pl, .int .i64 st] 33)) := (Below.refl _ _).alloc (Nat.le_refl _) _
  have hs0 : w.heap.size < (w.alloc (.cells #[.int .i64 a, .int .i64 b, .int .i64 f, .int .i64 s, .slice o len cap, .slice og g.length cg, .int .i64 pl, .int .i64 st] 33)).heap.size := by simp
  have bx := World.alloc_heap_new w (.cells #[.int .i64 a, .int .i64 b, .int .i64 f, .int .i64 s, .slice o len cap, .slice og g.length cg, .int .i64 pl, .int .i64 st] 33)
  have hc := specCarrierOk_any a b f s o og len cap cg g pl st (w.alloc (.cells #[.int .i64 a, .int .i64 b, .int .i64 f, .int .i64 s, .slice o len cap, .slice og g.length cg, .int .i64 pl, .int .i64 st] 33)) hl (by unfold maxLen; omega) (hG.kept hb0)
  cases hok : carrierOkB a b f s len g pl st with
  | false =>
    rw [hok] at hc
    have Hb := hide hb0
    clear hb0 bx
    go_enter Try.func39, Try.ntmps39
    go_wp2_with fail
    generalize (w.alloc (.cells #[.int .i64 a, .int .i64 b, .int .i64 f, .int .i64 s, .slice o len cap, .slice og g.length cg, .int .i64 pl, .int .i64 st] 33)) = w0 at *
    refine hc.mono ?_
    rintro e w1 ⟨rfl, hb1⟩
    have HB := hide (Hb.out.trans (hb1.mono Hb.out.size))
    clear hb1 hc Hb
    go_wp2
    go_ret
    exact ⟨_, rfl, World.ownsRow_nil _ _ _ _, HB.out⟩
  | true =>
    rw [hok] at hc
    obtain ⟨_, h2, h3, h4, h5, _, _⟩ := carrierOkB_head hok
    have Hb := hide hb0
    have Hx := hide bx
    clear hb0 bx
    go_enter Try.func39, Try.ntmps39
    go_wp2_with fail
    generalize (w.alloc (.cells #[.int .i64 a, .int .i64 b, .int .i64 f, .int .i64 s, .slice o len cap, .slice og g.length cg, .int .i64 pl, .int .i64 st] 33)) = w0 at *
    refine hc.mono ?_
    rintro e w1 ⟨rfl, hb1⟩
    have bx := (hb1.block _ hs0).trans Hx.out
    have hB1 := Hb.out.trans (hb1.mono Hb.out.size)
    have hs1 : w.heap.size < w1.heap.size := Nat.lt_of_lt_of_le hs0 hb1.size
    have HX := hide bx
    have HB1 := hide hB1
    clear Hx Hb hb1 hc bx hB1 hok
    go_wp2
    go_loopw [3, 4] (fun ov iv wr => ∃ k : Nat, k ≤ g.length ∧ iv = .int .i64 k ∧ ownL layI 3 wr w1.heap.size ov (huntTo g k) ∧ Below w1.heap.size w1 wr)
      (fun _ iv _ => g.length - (intOf iv).toNat)
    case atStart => exact ⟨0, Nat.zero_le _, rfl, World.ownsRow_nil _ _ _ _, Below.refl _ _⟩
    case round =>
      obtain ⟨k, hk, rfl, hov, hBr⟩ := hrel
      have bxr := (hBr.block _ hs1).trans HX.out
      have c5 : wr.cell? ⟨w.heap.size, 5, none⟩ = some (.slice og g.length cg) := block_cell bxr 5 _ rfl
      have HO := hide hov
      have HBr := hide hBr
      clear hov bxr
      by_cases hlt : k < g.length
      · rcases hG with hG | ⟨bb, off, rfl, hbb, hcell⟩
        · subst hG; simp at hlt
        obtain ⟨x, y, hxy⟩ : ∃ x y, g.getD k (0, 0) = (x, y) := ⟨_, _, rfl⟩
        have hcx := hcell k hlt
        rw [hxy] at hcx
        have hBw := HB1.out.trans (hBr.mono (Nat.le_of_lt hs1))
        have p0 := (hBw.cell (p := ⟨bb, off + k * 2, none⟩) hbb).trans hcx.1
        have p1 := (hBw.cell (p := ⟨bb, off + k * 2 + 1, none⟩) hbb).trans hcx.2
        have z1 : (k : Int) < (g.length : Int) := by omega
        have hHL := huntTo_len g k
        cases hy : (y == 1) with
        | false =>
          have HN := hide (huntTo_no hlt hxy hy)
          clear hxy hcell hcx hBw hBr
          go_wp2
          go_roundw
          case rel => exact ⟨k + 1, by omega, by go_num, by rw [HN.out]; exact HO.out, HBr.out⟩
          case measure => simp [intOf]; omega
        | true =>
          have HN := hide (huntTo_yes hlt hxy hy)
          clear hxy hcell hcx hBw hBr
          have F := hide (World.ownsRow.alloc HO.out (.cells #[.int .i64 x] 3))
          go_wp2_with (at_builtin; refine wpList_append_lay appI rfl _ _ rfl w1.heap.size _ (huntTo g k) rfl F.out (some ⟨wr.heap.size, 0, none⟩) 1 _ [x] 1 rfl rfl (fun h => by cases h) (rd_int1 wr x) ?e2 ?e3 ?_)
          case e2 => omega
          case e3 => exact Nat.le_trans HBr.out.size (by simp)
          intro v2 w2 hv2 hg2 _
          have HR := hide (show ownL layI 3 w2 w1.heap.size v2 (huntTo g (k + 1)) ∧ Below w1.heap.size w1 w2 from ⟨by rw [HN.out]; exact hv2, (HBr.out.alloc HBr.out.size _).grown hg2 (Nat.le_trans HBr.out.size (by simp)) (fun q h => (F.out.lt q h).1)⟩)
          clear hv2 hg2 F
          go_wp2
          go_roundw
          case rel => exact ⟨k + 1, by omega, by go_num, HR.out.1, HR.out.2⟩
          case measure => simp [intOf]; omega
      · have e : k = g.length := by omega
        subst e
        go_wp2
        go_ret
        exact ⟨_, rfl, own_mono HO.out (Nat.le_of_lt hs1), HB1.out.trans (HBr.out.mono (Nat.le_of_lt hs1))⟩

end Go.Proofs.Ytdlmekincjchoaa
