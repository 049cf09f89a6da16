/- DrawExpire. -/
import Derived.Test.YtiijecnhbioehaaGrExpMath
import Derived.Test.YtiijecnhbioehaaGrSDrawPT
import Derived.Test.YtiijecnhbioehaaGrDropElse
namespace Go.Proofs.Ytiijecnhbioehaa
open Go.ChangeShapes Go.WideShapes Go.ChangeAt Go.RowKit Go.Joins
set_option linter.unusedVariables false
set_option linter.unusedSimpArgs false

set_option maxRecDepth 100000 in
set_option maxHeartbeats 8000000 in
theorem drawExpire_any (o : Option Addr) (cap : Nat) (l : List Int) (w : World) (hR : Rd w o l) (hB8 : isB l) (hm : l.length ≤ maxLen) :
    Calls Try.prog 27 #[.slice o l.length cap] w fun e w' => ∃ v m x, e = .returned (.tuple #[v, .int .i64 x]) ∧ (1 ≤ m.length ∧ m.length ≤ 16) ∧ InT w.heap.size w'.heap.size w' v m ∧ Below w.heap.size w w' := by
  obtain ⟨W0, hW0⟩ : ∃ W, (w.alloc (.cells #[.slice none 0 0] 25)) = W := ⟨_, rfl⟩
  have hb_W0 : Below w.heap.size w W0 := by rw [← hW0]; exact ((Below.refl _ _).alloc (Nat.le_refl _) _)
  have HB := hide hb_W0
  clear hb_W0
  have zx : w.heap.size < W0.heap.size := by rw [← hW0]; simp
  have x0 : W0.cell? ⟨w.heap.size, 0, none⟩ = some (.slice none 0 0) := by rw [← hW0]; simp [go_sem]
  have fx0 : W0.frozen? ⟨w.heap.size, 0, none⟩ = false := by rw [← hW0]; simp [go_sem]
  have hz0 := zx
  have HR := hide (Rd.kept hR HB.out)
  go_enter Try.func27, Try.ntmps27
  go_wp2_with fail
  refine (l1New_any o cap l W0 HR.out hB8 hm).mono ?_
  rintro e v1 ⟨rfl, hc, hb, hk⟩
  have HC := hide hc
  clear hc
  replace x0 : v1.cell? ⟨w.heap.size, 0, none⟩ = some (.slice none 0 0) := (hb.cell (p := ⟨w.heap.size, 0, none⟩) zx).trans x0
  replace fx0 : v1.frozen? ⟨w.heap.size, 0, none⟩ = false := (hb.frozen (p := ⟨w.heap.size, 0, none⟩) zx).trans fx0
  replace zx : w.heap.size < v1.heap.size := Nat.lt_of_lt_of_le zx hb.size
  replace HB := hide (HB.out.trans (hb.mono HB.out.size))
  clear hb
  clear hW0
  generalize hK : W0.heap.size = K at *
  go_wp2_with fail
  refine (l5bent_any K v1 HC.out hk).mono ?_
  rintro e v2 ⟨vt, m, rfl, hln, hin, hc2, hg2⟩
  obtain ⟨ot, ct, hve⟩ := InT.opn hin
  subst hve
  obtain ⟨n, hn⟩ : ∃ n, m.length = n := ⟨_, rfl⟩
  rw [hn] at hin
  simp only [hn]
  have HN := hide hn
  clear hn
  have st2 : Stp K (K + 1) v1 v2 := Stp.grown hg2 (fun b e => by cases e; omega)
  replace x0 : v2.cell? ⟨w.heap.size, 0, none⟩ = some (.slice none 0 0) := st2.cell x0 zx (.inl (by omega))
  replace fx0 : v2.frozen? ⟨w.heap.size, 0, none⟩ = false := st2.frozen fx0 zx (.inl (by omega))
  have hs2 := st2.size
  replace HB := hide (HB.out.trans (st2.below (by omega) HB.out.size))
  have HI := hide hin
  have HC2 := hide hc2
  clear hin hc2 hg2 st2 HC
  have hp : Below v2.heap.size v2 (v2.alloc (.cells #[.int .i64 0, .int .i64 10, .int .i64 20, .int .i64 40, .int .i64 (-1)] 3)) := (Below.refl _ _).alloc (Nat.le_refl _) _
  have HP := hide (pickN K v2.heap.size 5 [0, 10, 20, 40, -1] rfl (v2.alloc (.cells #[.int .i64 0, .int .i64 10, .int .i64 20, .int .i64 40, .int .i64 (-1)] 3)) (HC2.out.below (hp.mono (by omega))) (by simp) (by omega) (by simp) (by simp) (fun q hq => by
      match q, hq with
      | 0, _ => simp [go_sem]
      | 1, _ => simp [go_sem]
      | 2, _ => simp [go_sem]
      | 3, _ => simp [go_sem]
      | 4, _ => simp [go_sem]))
  go_wp2_with fail
  refine HP.out.mono ?_
  rintro e v3 ⟨px, rfl, hc3, st3⟩
  have S3 : Stp K (K + 1) v2 v3 := (Stp.of hp).trans st3
  replace x0 : v3.cell? ⟨w.heap.size, 0, none⟩ = some (.slice none 0 0) := S3.cell x0 (by omega) (.inl (by omega))
  replace fx0 : v3.frozen? ⟨w.heap.size, 0, none⟩ = false := S3.frozen fx0 (by omega) (.inl (by omega))
  replace HB := hide (HB.out.trans (S3.below (by omega) HB.out.size))
  replace HI := hide (HI.out.step S3 (.inl (by omega)))
  have hs3 := S3.size
  clear hc3 st3 S3 hp HP
  go_wp2
  refine bodyPost_ret (v := .tuple #[tab (.slice ot n ct), .int .i64 px]) (by simp [results, Try.results27, go_sem, x0]) rfl ⟨_, m, px, rfl, hln, ?_, ?_⟩
  · exact (HI.out.step (stp_set v3 w.heap.size 0 (.slice ot n ct)) (.inl (by omega))).mono (by omega) (by simp; omega)
  · exact HB.out.setCell (p := ⟨w.heap.size, 0, none⟩) (Nat.le_refl _) _

end Go.Proofs.Ytiijecnhbioehaa
