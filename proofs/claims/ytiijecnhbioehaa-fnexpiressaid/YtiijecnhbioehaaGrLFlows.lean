/- Several texts in one: SPut2, DropMath, LMarkF, LFlows. -/
import Derived.Test.YtiijecnhbioehaaGrSPut
import Derived.Test.YtiijecnhbioehaaFlowL
import Derived.Test.YtiijecnhbioehaaMarkL
import Derived.Test.YtiijecnhbioehaaLFlow
import Derived.Test.YtiijecnhbioehaaGrow
import Derived.Test.YtiijecnhbioehaaFr
/- Put, the model's and the program's. -/
namespace Go.Proofs.Ytiijecnhbioehaa
open Go.ChangeShapes Go.WideShapes Go.ChangeAt Go.RowKit Go.Joins
set_option linter.unusedVariables false
set_option linter.unusedSimpArgs false

def putOk (l : List Sl) (a p v t : Int) : Bool := tableOkB l && flowOkB a p && leaseB v t
def putM (l : List Sl) (a p v t : Int) : List Sl := if putOk l a p v t = true then putL l a p v t else []
def putB (l : List Sl) (a p v t : Int) : Bool := if putOk l a p v t = true then decide (0 ≤ (endL l a p).1) else false
theorem putM_len (l : List Sl) (a p v t : Int) : (putM l a p v t).length ≤ 16 := by
  unfold putM
  split
  · next h =>
    rw [putL_length]
    simp [putOk] at h
    exact (tableOkB_iff.1 h.1.1).2.1
  · exact Nat.zero_le _
theorem rd_nonnil {C : Nat} {w : World} {o : Option Addr} {l : List Sl} (h : RdS C w o l) (hn : 0 < l.length) : ∃ b off, o = some ⟨b, off, none⟩ ∧ b < C ∧ ∀ i, i < l.length → ∀ j, j < layS.k → w.cell? ⟨b, off + i * layS.k + j, none⟩ = (layS.cs (l.getD i layS.d))[j]? := by
  rcases h with h | ⟨b, off, rfl, hb, hc⟩
  · subst h; simp at hn
  · exact ⟨b, off, rfl, hb, hc⟩
set_option maxHeartbeats 4000000 in
theorem specPut_any (o : Option Addr) (c : Nat) (l : List Sl) (a p v t : Int) (w : World) (hR : RdS w.heap.size w o l) (hl : l.length ≤ 1048576) :
    Calls Try.prog 47 #[tab (.slice o l.length c), flow a p, .int .i64 v, .int .i64 t] w fun e w' => ∃ v', e = .returned (.tuple #[v', .bool (putB l a p v t)]) ∧ InT w.heap.size w'.heap.size w' v' (putM l a p v t) ∧ Below w.heap.size w w' := by
  obtain ⟨W0, hW0⟩ : ∃ W, (((w.alloc (.cells #[.slice o l.length c] 25)).alloc (.cells #[.int .i64 a, .int .i64 p] 27)).alloc (.cells #[.slice none 0 0] 25)) = W := ⟨_, rfl⟩
  have hb_W0 : Below w.heap.size w W0 := by rw [← hW0]; exact ((((Below.refl _ _).alloc (Nat.le_refl _) _).alloc (by simp <;> omega) _).alloc (by simp <;> omega) _)
  have HB := hide hb_W0
  clear hb_W0
  have zct : w.heap.size < W0.heap.size := by rw [← hW0]; simp <;> omega
  have ct0 : W0.cell? ⟨w.heap.size, 0, none⟩ = some (.slice o l.length c) := by rw [← hW0]; simp [go_sem]
  have zcf : w.heap.size + 1 < W0.heap.size := by rw [← hW0]; simp <;> omega
  have cf0 : W0.cell? ⟨w.heap.size + 1, 0, none⟩ = some (.int .i64 a) := by rw [← hW0]; simp [go_sem]
  have cf1 : W0.cell? ⟨w.heap.size + 1, 1, none⟩ = some (.int .i64 p) := by rw [← hW0]; simp [go_sem]
  have zcr : w.heap.size + 1 + 1 < W0.heap.size := by rw [← hW0]; simp
  have cr0 : W0.cell? ⟨w.heap.size + 1 + 1, 0, none⟩ = some (.slice none 0 0) := by rw [← hW0]; simp [go_sem]
  have fcr0 : W0.frozen? ⟨w.heap.size + 1 + 1, 0, none⟩ = false := by rw [← hW0]; simp [go_sem]
  have HZ := hide zcr
  have hok := specTableOk_any o c l W0 ((hR.kept HB.out (Nat.le_refl _)).le HB.out.size) hl
  cases hT : tableOkB l with
  | false =>
    have HM := hide (show putM l a p v t = [] by unfold putM putOk; rw [hT]; rfl)
    have HG := hide (show putB l a p v t = false by unfold putB putOk; rw [hT]; rfl)
    rw [hT] at hok
    go_enter Try.func47, Try.ntmps47
    go_wp2_with fail
    refine (hok).mono ?_
    rintro e v1 ⟨rfl, hb⟩
    replace ct0 : v1.cell? ⟨w.heap.size, 0, none⟩ = some (.slice o l.length c) := (hb.cell (p := ⟨w.heap.size, 0, none⟩) zct).trans ct0
    replace zct : w.heap.size < v1.heap.size := Nat.lt_of_lt_of_le zct hb.size
    replace cf0 : v1.cell? ⟨w.heap.size + 1, 0, none⟩ = some (.int .i64 a) := (hb.cell (p := ⟨w.heap.size + 1, 0, none⟩) zcf).trans cf0
    replace cf1 : v1.cell? ⟨w.heap.size + 1, 1, none⟩ = some (.int .i64 p) := (hb.cell (p := ⟨w.heap.size + 1, 1, none⟩) zcf).trans cf1
    replace zcf : w.heap.size + 1 < v1.heap.size := Nat.lt_of_lt_of_le zcf hb.size
    replace cr0 : v1.cell? ⟨w.heap.size + 1 + 1, 0, none⟩ = some (.slice none 0 0) := (hb.cell (p := ⟨w.heap.size + 1 + 1, 0, none⟩) zcr).trans cr0
    replace fcr0 : v1.frozen? ⟨w.heap.size + 1 + 1, 0, none⟩ = false := (hb.frozen (p := ⟨w.heap.size + 1 + 1, 0, none⟩) zcr).trans fcr0
    replace zcr : w.heap.size + 1 + 1 < v1.heap.size := Nat.lt_of_lt_of_le zcr hb.size
    replace HB := hide (HB.out.trans (hb.mono HB.out.size))
    clear hb
    clear hok hT
    go_wp2
    refine bodyPost_ret (v := .tuple #[tab (.slice none 0 0), .bool false]) (by simp [results, Try.results47, go_sem, cr0]) rfl ⟨_, by rw [HG.out], ⟨_, rfl, ?_⟩, ?_⟩
    · rw [HM.out]; exact InRow.of (World.ownsRow_nil _ _ _ _)
    · exact HB.out.setCell (p := ⟨w.heap.size + 1 + 1, 0, none⟩) (by simp <;> omega) _
  | true =>
    rw [hT] at hok
    have hn := (tableOkB_iff.1 hT).1
    cases hF : flowOkB a p with
    | false =>
      have HM := hide (show putM l a p v t = [] by unfold putM putOk; rw [hT, hF]; rfl)
      have HG := hide (show putB l a p v t = false by unfold putB putOk; rw [hT, hF]; rfl)
      go_enter Try.func47, Try.ntmps47
      go_wp2_with fail
      refine (hok).mono ?_
      rintro e v1 ⟨rfl, hb⟩
      replace ct0 : v1.cell? ⟨w.heap.size, 0, none⟩ = some (.slice o l.length c) := (hb.cell (p := ⟨w.heap.size, 0, none⟩) zct).trans ct0
      replace zct : w.heap.size < v1.heap.size := Nat.lt_of_lt_of_le zct hb.size
      replace cf0 : v1.cell? ⟨w.heap.size + 1, 0, none⟩ = some (.int .i64 a) := (hb.cell (p := ⟨w.heap.size + 1, 0, none⟩) zcf).trans cf0
      replace cf1 : v1.cell? ⟨w.heap.size + 1, 1, none⟩ = some (.int .i64 p) := (hb.cell (p := ⟨w.heap.size + 1, 1, none⟩) zcf).trans cf1
      replace zcf : w.heap.size + 1 < v1.heap.size := Nat.lt_of_lt_of_le zcf hb.size
      replace cr0 : v1.cell? ⟨w.heap.size + 1 + 1, 0, none⟩ = some (.slice none 0 0) := (hb.cell (p := ⟨w.heap.size + 1 + 1, 0, none⟩) zcr).trans cr0
      replace fcr0 : v1.frozen? ⟨w.heap.size + 1 + 1, 0, none⟩ = false := (hb.frozen (p := ⟨w.heap.size + 1 + 1, 0, none⟩) zcr).trans fcr0
      replace zcr : w.heap.size + 1 + 1 < v1.heap.size := Nat.lt_of_lt_of_le zcr hb.size
      replace HB := hide (HB.out.trans (hb.mono HB.out.size))
      clear hb
      have hfl := specFlowOk_any a p v1
      rw [hF] at hfl
      go_wp2_with fail
      refine (hfl).mono ?_
      rintro e v2 ⟨rfl, hb⟩
      replace ct0 : v2.cell? ⟨w.heap.size, 0, none⟩ = some (.slice o l.length c) := (hb.cell (p := ⟨w.heap.size, 0, none⟩) zct).trans ct0
      replace zct : w.heap.size < v2.heap.size := Nat.lt_of_lt_of_le zct hb.size
      replace cf0 : v2.cell? ⟨w.heap.size + 1, 0, none⟩ = some (.int .i64 a) := (hb.cell (p := ⟨w.heap.size + 1, 0, none⟩) zcf).trans cf0
      replace cf1 : v2.cell? ⟨w.heap.size + 1, 1, none⟩ = some (.int .i64 p) := (hb.cell (p := ⟨w.heap.size + 1, 1, none⟩) zcf).trans cf1
      replace zcf : w.heap.size + 1 < v2.heap.size := Nat.lt_of_lt_of_le zcf hb.size
      replace cr0 : v2.cell? ⟨w.heap.size + 1 + 1, 0, none⟩ = some (.slice none 0 0) := (hb.cell (p := ⟨w.heap.size + 1 + 1, 0, none⟩) zcr).trans cr0
      replace fcr0 : v2.frozen? ⟨w.heap.size + 1 + 1, 0, none⟩ = false := (hb.frozen (p := ⟨w.heap.size + 1 + 1, 0, none⟩) zcr).trans fcr0
      replace zcr : w.heap.size + 1 + 1 < v2.heap.size := Nat.lt_of_lt_of_le zcr hb.size
      replace HB := hide (HB.out.trans (hb.mono HB.out.size))
      clear hb
      clear hok hfl hT hF
      go_wp2
      refine bodyPost_ret (v := .tuple #[tab (.slice none 0 0), .bool false]) (by simp [results, Try.results47, go_sem, cr0]) rfl ⟨_, by rw [HG.out], ⟨_, rfl, ?_⟩, ?_⟩
      · rw [HM.out]; exact InRow.of (World.ownsRow_nil _ _ _ _)
      · exact HB.out.setCell (p := ⟨w.heap.size + 1 + 1, 0, none⟩) (by simp <;> omega) _
    | true =>
      cases hL : leaseB v t with
      | false =>
        have HM := hide (show putM l a p v t = [] by unfold putM putOk; rw [hT, hF, hL]; rfl)
        have HG := hide (show putB l a p v t = false by unfold putB putOk; rw [hT, hF, hL]; rfl)
        have HL := hide (show ¬ (0 ≤ v ∧ v ≤ 100000 ∧ 0 ≤ t ∧ t ≤ 200000) from fun h => by rw [leaseB_iff.2 h] at hL; cases hL)
        have hfl := fun W => specFlowOk_any a p W
        rw [hF] at hfl
        by_cases g1 : v < 0
        · skip
          clear hL
          go_enter Try.func47, Try.ntmps47
          go_wp2_with fail
          refine (hok).mono ?_
          rintro e v1 ⟨rfl, hb⟩
          replace ct0 : v1.cell? ⟨w.heap.size, 0, none⟩ = some (.slice o l.length c) := (hb.cell (p := ⟨w.heap.size, 0, none⟩) zct).trans ct0
          replace zct : w.heap.size < v1.heap.size := Nat.lt_of_lt_of_le zct hb.size
          replace cf0 : v1.cell? ⟨w.heap.size + 1, 0, none⟩ = some (.int .i64 a) := (hb.cell (p := ⟨w.heap.size + 1, 0, none⟩) zcf).trans cf0
          replace cf1 : v1.cell? ⟨w.heap.size + 1, 1, none⟩ = some (.int .i64 p) := (hb.cell (p := ⟨w.heap.size + 1, 1, none⟩) zcf).trans cf1
          replace zcf : w.heap.size + 1 < v1.heap.size := Nat.lt_of_lt_of_le zcf hb.size
          replace cr0 : v1.cell? ⟨w.heap.size + 1 + 1, 0, none⟩ = some (.slice none 0 0) := (hb.cell (p := ⟨w.heap.size + 1 + 1, 0, none⟩) zcr).trans cr0
          replace fcr0 : v1.frozen? ⟨w.heap.size + 1 + 1, 0, none⟩ = false := (hb.frozen (p := ⟨w.heap.size + 1 + 1, 0, none⟩) zcr).trans fcr0
          replace zcr : w.heap.size + 1 + 1 < v1.heap.size := Nat.lt_of_lt_of_le zcr hb.size
          replace HB := hide (HB.out.trans (hb.mono HB.out.size))
          clear hb
          go_wp2_with fail
          refine (hfl v1).mono ?_
          rintro e v2 ⟨rfl, hb⟩
          replace ct0 : v2.cell? ⟨w.heap.size, 0, none⟩ = some (.slice o l.length c) := (hb.cell (p := ⟨w.heap.size, 0, none⟩) zct).trans ct0
          replace zct : w.heap.size < v2.heap.size := Nat.lt_of_lt_of_le zct hb.size
          replace cf0 : v2.cell? ⟨w.heap.size + 1, 0, none⟩ = some (.int .i64 a) := (hb.cell (p := ⟨w.heap.size + 1, 0, none⟩) zcf).trans cf0
          replace cf1 : v2.cell? ⟨w.heap.size + 1, 1, none⟩ = some (.int .i64 p) := (hb.cell (p := ⟨w.heap.size + 1, 1, none⟩) zcf).trans cf1
          replace zcf : w.heap.size + 1 < v2.heap.size := Nat.lt_of_lt_of_le zcf hb.size
          replace cr0 : v2.cell? ⟨w.heap.size + 1 + 1, 0, none⟩ = some (.slice none 0 0) := (hb.cell (p := ⟨w.heap.size + 1 + 1, 0, none⟩) zcr).trans cr0
          replace fcr0 : v2.frozen? ⟨w.heap.size + 1 + 1, 0, none⟩ = false := (hb.frozen (p := ⟨w.heap.size + 1 + 1, 0, none⟩) zcr).trans fcr0
          replace zcr : w.heap.size + 1 + 1 < v2.heap.size := Nat.lt_of_lt_of_le zcr hb.size
          replace HB := hide (HB.out.trans (hb.mono HB.out.size))
          clear hb
          clear hok hfl hT hF
          go_wp2
          refine bodyPost_ret (v := .tuple #[tab (.slice none 0 0), .bool false]) (by simp [results, Try.results47, go_sem, cr0]) rfl ⟨_, by rw [HG.out], ⟨_, rfl, ?_⟩, ?_⟩
          · rw [HM.out]; exact InRow.of (World.ownsRow_nil _ _ _ _)
          · exact HB.out.setCell (p := ⟨w.heap.size + 1 + 1, 0, none⟩) (by simp <;> omega) _
        · skip
          by_cases g2 : 100000 < v
          · skip
            clear hL
            go_enter Try.func47, Try.ntmps47
            go_wp2_with fail
            refine (hok).mono ?_
            rintro e v1 ⟨rfl, hb⟩
            replace ct0 : v1.cell? ⟨w.heap.size, 0, none⟩ = some (.slice o l.length c) := (hb.cell (p := ⟨w.heap.size, 0, none⟩) zct).trans ct0
            replace zct : w.heap.size < v1.heap.size := Nat.lt_of_lt_of_le zct hb.size
            replace cf0 : v1.cell? ⟨w.heap.size + 1, 0, none⟩ = some (.int .i64 a) := (hb.cell (p := ⟨w.heap.size + 1, 0, none⟩) zcf).trans cf0
            replace cf1 : v1.cell? ⟨w.heap.size + 1, 1, none⟩ = some (.int .i64 p) := (hb.cell (p := ⟨w.heap.size + 1, 1, none⟩) zcf).trans cf1
            replace zcf : w.heap.size + 1 < v1.heap.size := Nat.lt_of_lt_of_le zcf hb.size
            replace cr0 : v1.cell? ⟨w.heap.size + 1 + 1, 0, none⟩ = some (.slice none 0 0) := (hb.cell (p := ⟨w.heap.size + 1 + 1, 0, none⟩) zcr).trans cr0
            replace fcr0 : v1.frozen? ⟨w.heap.size + 1 + 1, 0, none⟩ = false := (hb.frozen (p := ⟨w.heap.size + 1 + 1, 0, none⟩) zcr).trans fcr0
            replace zcr : w.heap.size + 1 + 1 < v1.heap.size := Nat.lt_of_lt_of_le zcr hb.size
            replace HB := hide (HB.out.trans (hb.mono HB.out.size))
            clear hb
            go_wp2_with fail
            refine (hfl v1).mono ?_
            rintro e v2 ⟨rfl, hb⟩
            replace ct0 : v2.cell? ⟨w.heap.size, 0, none⟩ = some (.slice o l.length c) := (hb.cell (p := ⟨w.heap.size, 0, none⟩) zct).trans ct0
            replace zct : w.heap.size < v2.heap.size := Nat.lt_of_lt_of_le zct hb.size
            replace cf0 : v2.cell? ⟨w.heap.size + 1, 0, none⟩ = some (.int .i64 a) := (hb.cell (p := ⟨w.heap.size + 1, 0, none⟩) zcf).trans cf0
            replace cf1 : v2.cell? ⟨w.heap.size + 1, 1, none⟩ = some (.int .i64 p) := (hb.cell (p := ⟨w.heap.size + 1, 1, none⟩) zcf).trans cf1
            replace zcf : w.heap.size + 1 < v2.heap.size := Nat.lt_of_lt_of_le zcf hb.size
            replace cr0 : v2.cell? ⟨w.heap.size + 1 + 1, 0, none⟩ = some (.slice none 0 0) := (hb.cell (p := ⟨w.heap.size + 1 + 1, 0, none⟩) zcr).trans cr0
            replace fcr0 : v2.frozen? ⟨w.heap.size + 1 + 1, 0, none⟩ = false := (hb.frozen (p := ⟨w.heap.size + 1 + 1, 0, none⟩) zcr).trans fcr0
            replace zcr : w.heap.size + 1 + 1 < v2.heap.size := Nat.lt_of_lt_of_le zcr hb.size
            replace HB := hide (HB.out.trans (hb.mono HB.out.size))
            clear hb
            clear hok hfl hT hF
            go_wp2
            refine bodyPost_ret (v := .tuple #[tab (.slice none 0 0), .bool false]) (by simp [results, Try.results47, go_sem, cr0]) rfl ⟨_, by rw [HG.out], ⟨_, rfl, ?_⟩, ?_⟩
            · rw [HM.out]; exact InRow.of (World.ownsRow_nil _ _ _ _)
            · exact HB.out.setCell (p := ⟨w.heap.size + 1 + 1, 0, none⟩) (by simp <;> omega) _
          · skip
            by_cases g3 : t < 0
            · skip
              clear hL
              go_enter Try.func47, Try.ntmps47
              go_wp2_with fail
              refine (hok).mono ?_
              rintro e v1 ⟨rfl, hb⟩
              replace ct0 : v1.cell? ⟨w.heap.size, 0, none⟩ = some (.slice o l.length c) := (hb.cell (p := ⟨w.heap.size, 0, none⟩) zct).trans ct0
              replace zct : w.heap.size < v1.heap.size := Nat.lt_of_lt_of_le zct hb.size
              replace cf0 : v1.cell? ⟨w.heap.size + 1, 0, none⟩ = some (.int .i64 a) := (hb.cell (p := ⟨w.heap.size + 1, 0, none⟩) zcf).trans cf0
              replace cf1 : v1.cell? ⟨w.heap.size + 1, 1, none⟩ = some (.int .i64 p) := (hb.cell (p := ⟨w.heap.size + 1, 1, none⟩) zcf).trans cf1
              replace zcf : w.heap.size + 1 < v1.heap.size := Nat.lt_of_lt_of_le zcf hb.size
              replace cr0 : v1.cell? ⟨w.heap.size + 1 + 1, 0, none⟩ = some (.slice none 0 0) := (hb.cell (p := ⟨w.heap.size + 1 + 1, 0, none⟩) zcr).trans cr0
              replace fcr0 : v1.frozen? ⟨w.heap.size + 1 + 1, 0, none⟩ = false := (hb.frozen (p := ⟨w.heap.size + 1 + 1, 0, none⟩) zcr).trans fcr0
              replace zcr : w.heap.size + 1 + 1 < v1.heap.size := Nat.lt_of_lt_of_le zcr hb.size
              replace HB := hide (HB.out.trans (hb.mono HB.out.size))
              clear hb
              go_wp2_with fail
              refine (hfl v1).mono ?_
              rintro e v2 ⟨rfl, hb⟩
              replace ct0 : v2.cell? ⟨w.heap.size, 0, none⟩ = some (.slice o l.length c) := (hb.cell (p := ⟨w.heap.size, 0, none⟩) zct).trans ct0
              replace zct : w.heap.size < v2.heap.size := Nat.lt_of_lt_of_le zct hb.size
              replace cf0 : v2.cell? ⟨w.heap.size + 1, 0, none⟩ = some (.int .i64 a) := (hb.cell (p := ⟨w.heap.size + 1, 0, none⟩) zcf).trans cf0
              replace cf1 : v2.cell? ⟨w.heap.size + 1, 1, none⟩ = some (.int .i64 p) := (hb.cell (p := ⟨w.heap.size + 1, 1, none⟩) zcf).trans cf1
              replace zcf : w.heap.size + 1 < v2.heap.size := Nat.lt_of_lt_of_le zcf hb.size
              replace cr0 : v2.cell? ⟨w.heap.size + 1 + 1, 0, none⟩ = some (.slice none 0 0) := (hb.cell (p := ⟨w.heap.size + 1 + 1, 0, none⟩) zcr).trans cr0
              replace fcr0 : v2.frozen? ⟨w.heap.size + 1 + 1, 0, none⟩ = false := (hb.frozen (p := ⟨w.heap.size + 1 + 1, 0, none⟩) zcr).trans fcr0
              replace zcr : w.heap.size + 1 + 1 < v2.heap.size := Nat.lt_of_lt_of_le zcr hb.size
              replace HB := hide (HB.out.trans (hb.mono HB.out.size))
              clear hb
              clear hok hfl hT hF
              go_wp2
              refine bodyPost_ret (v := .tuple #[tab (.slice none 0 0), .bool false]) (by simp [results, Try.results47, go_sem, cr0]) rfl ⟨_, by rw [HG.out], ⟨_, rfl, ?_⟩, ?_⟩
              · rw [HM.out]; exact InRow.of (World.ownsRow_nil _ _ _ _)
              · exact HB.out.setCell (p := ⟨w.heap.size + 1 + 1, 0, none⟩) (by simp <;> omega) _
            · skip
              have g4 : 200000 < t := by have := HL.out; omega
              clear hL
              go_enter Try.func47, Try.ntmps47
              go_wp2_with fail
              refine (hok).mono ?_
              rintro e v1 ⟨rfl, hb⟩
              replace ct0 : v1.cell? ⟨w.heap.size, 0, none⟩ = some (.slice o l.length c) := (hb.cell (p := ⟨w.heap.size, 0, none⟩) zct).trans ct0
              replace zct : w.heap.size < v1.heap.size := Nat.lt_of_lt_of_le zct hb.size
              replace cf0 : v1.cell? ⟨w.heap.size + 1, 0, none⟩ = some (.int .i64 a) := (hb.cell (p := ⟨w.heap.size + 1, 0, none⟩) zcf).trans cf0
              replace cf1 : v1.cell? ⟨w.heap.size + 1, 1, none⟩ = some (.int .i64 p) := (hb.cell (p := ⟨w.heap.size + 1, 1, none⟩) zcf).trans cf1
              replace zcf : w.heap.size + 1 < v1.heap.size := Nat.lt_of_lt_of_le zcf hb.size
              replace cr0 : v1.cell? ⟨w.heap.size + 1 + 1, 0, none⟩ = some (.slice none 0 0) := (hb.cell (p := ⟨w.heap.size + 1 + 1, 0, none⟩) zcr).trans cr0
              replace fcr0 : v1.frozen? ⟨w.heap.size + 1 + 1, 0, none⟩ = false := (hb.frozen (p := ⟨w.heap.size + 1 + 1, 0, none⟩) zcr).trans fcr0
              replace zcr : w.heap.size + 1 + 1 < v1.heap.size := Nat.lt_of_lt_of_le zcr hb.size
              replace HB := hide (HB.out.trans (hb.mono HB.out.size))
              clear hb
              go_wp2_with fail
              refine (hfl v1).mono ?_
              rintro e v2 ⟨rfl, hb⟩
              replace ct0 : v2.cell? ⟨w.heap.size, 0, none⟩ = some (.slice o l.length c) := (hb.cell (p := ⟨w.heap.size, 0, none⟩) zct).trans ct0
              replace zct : w.heap.size < v2.heap.size := Nat.lt_of_lt_of_le zct hb.size
              replace cf0 : v2.cell? ⟨w.heap.size + 1, 0, none⟩ = some (.int .i64 a) := (hb.cell (p := ⟨w.heap.size + 1, 0, none⟩) zcf).trans cf0
              replace cf1 : v2.cell? ⟨w.heap.size + 1, 1, none⟩ = some (.int .i64 p) := (hb.cell (p := ⟨w.heap.size + 1, 1, none⟩) zcf).trans cf1
              replace zcf : w.heap.size + 1 < v2.heap.size := Nat.lt_of_lt_of_le zcf hb.size
              replace cr0 : v2.cell? ⟨w.heap.size + 1 + 1, 0, none⟩ = some (.slice none 0 0) := (hb.cell (p := ⟨w.heap.size + 1 + 1, 0, none⟩) zcr).trans cr0
              replace fcr0 : v2.frozen? ⟨w.heap.size + 1 + 1, 0, none⟩ = false := (hb.frozen (p := ⟨w.heap.size + 1 + 1, 0, none⟩) zcr).trans fcr0
              replace zcr : w.heap.size + 1 + 1 < v2.heap.size := Nat.lt_of_lt_of_le zcr hb.size
              replace HB := hide (HB.out.trans (hb.mono HB.out.size))
              clear hb
              clear hok hfl hT hF
              go_wp2
              refine bodyPost_ret (v := .tuple #[tab (.slice none 0 0), .bool false]) (by simp [results, Try.results47, go_sem, cr0]) rfl ⟨_, by rw [HG.out], ⟨_, rfl, ?_⟩, ?_⟩
              · rw [HM.out]; exact InRow.of (World.ownsRow_nil _ _ _ _)
              · exact HB.out.setCell (p := ⟨w.heap.size + 1 + 1, 0, none⟩) (by simp <;> omega) _
      | true =>
        have HM := hide (show putM l a p v t = putL l a p v t by unfold putM putOk; rw [hT, hF, hL]; rfl)
        have HG := hide (show putB l a p v t = decide (0 ≤ (endL l a p).1) by unfold putB putOk; rw [hT, hF, hL]; rfl)
        obtain ⟨x1, x2, x3, x4⟩ := leaseB_iff.1 hL
        have g1 : ¬ v < 0 := by omega
        have g2 : ¬ 100000 < v := by omega
        have g3 : ¬ t < 0 := by omega
        have g4 : ¬ 200000 < t := by omega
        have hfl := fun W => specFlowOk_any a p W
        rw [hF] at hfl
        clear hT hL x1 x2 x3 x4
        rcases hR with hR | ⟨b, off, rfl, hbl, hcell⟩
        · subst hR; simp at hn
        have HC := hide hcell
        clear hcell
        go_enter Try.func47, Try.ntmps47
        go_wp2_with fail
        refine (hok).mono ?_
        rintro e v1 ⟨rfl, hb⟩
        replace ct0 : v1.cell? ⟨w.heap.size, 0, none⟩ = some (.slice (some ⟨b, off, none⟩) l.length c) := (hb.cell (p := ⟨w.heap.size, 0, none⟩) zct).trans ct0
        replace zct : w.heap.size < v1.heap.size := Nat.lt_of_lt_of_le zct hb.size
        replace cf0 : v1.cell? ⟨w.heap.size + 1, 0, none⟩ = some (.int .i64 a) := (hb.cell (p := ⟨w.heap.size + 1, 0, none⟩) zcf).trans cf0
        replace cf1 : v1.cell? ⟨w.heap.size + 1, 1, none⟩ = some (.int .i64 p) := (hb.cell (p := ⟨w.heap.size + 1, 1, none⟩) zcf).trans cf1
        replace zcf : w.heap.size + 1 < v1.heap.size := Nat.lt_of_lt_of_le zcf hb.size
        replace cr0 : v1.cell? ⟨w.heap.size + 1 + 1, 0, none⟩ = some (.slice none 0 0) := (hb.cell (p := ⟨w.heap.size + 1 + 1, 0, none⟩) zcr).trans cr0
        replace fcr0 : v1.frozen? ⟨w.heap.size + 1 + 1, 0, none⟩ = false := (hb.frozen (p := ⟨w.heap.size + 1 + 1, 0, none⟩) zcr).trans fcr0
        replace zcr : w.heap.size + 1 + 1 < v1.heap.size := Nat.lt_of_lt_of_le zcr hb.size
        replace HB := hide (HB.out.trans (hb.mono HB.out.size))
        clear hb
        go_wp2_with fail
        refine (hfl v1).mono ?_
        rintro e v2 ⟨rfl, hb⟩
        replace ct0 : v2.cell? ⟨w.heap.size, 0, none⟩ = some (.slice (some ⟨b, off, none⟩) l.length c) := (hb.cell (p := ⟨w.heap.size, 0, none⟩) zct).trans ct0
        replace zct : w.heap.size < v2.heap.size := Nat.lt_of_lt_of_le zct hb.size
        replace cf0 : v2.cell? ⟨w.heap.size + 1, 0, none⟩ = some (.int .i64 a) := (hb.cell (p := ⟨w.heap.size + 1, 0, none⟩) zcf).trans cf0
        replace cf1 : v2.cell? ⟨w.heap.size + 1, 1, none⟩ = some (.int .i64 p) := (hb.cell (p := ⟨w.heap.size + 1, 1, none⟩) zcf).trans cf1
        replace zcf : w.heap.size + 1 < v2.heap.size := Nat.lt_of_lt_of_le zcf hb.size
        replace cr0 : v2.cell? ⟨w.heap.size + 1 + 1, 0, none⟩ = some (.slice none 0 0) := (hb.cell (p := ⟨w.heap.size + 1 + 1, 0, none⟩) zcr).trans cr0
        replace fcr0 : v2.frozen? ⟨w.heap.size + 1 + 1, 0, none⟩ = false := (hb.frozen (p := ⟨w.heap.size + 1 + 1, 0, none⟩) zcr).trans fcr0
        replace zcr : w.heap.size + 1 + 1 < v2.heap.size := Nat.lt_of_lt_of_le zcr hb.size
        replace HB := hide (HB.out.trans (hb.mono HB.out.size))
        clear hb
        go_wp2_with fail
        refine (l5put_any b off c l a p v t v2 (by omega) hl hF (Nat.lt_of_lt_of_le hbl HB.out.size) (fun i hi j hj => (HB.out.cell (p := ⟨b, off + i * layS.k + j, none⟩) hbl).trans (HC.out i hi j hj))).mono ?_
        rintro e v3 ⟨b', off', c', rfl, hb1, hrd, hb⟩
        have HRd := hide hrd
        clear hrd
        replace ct0 : v3.cell? ⟨w.heap.size, 0, none⟩ = some (.slice (some ⟨b, off, none⟩) l.length c) := (hb.cell (p := ⟨w.heap.size, 0, none⟩) zct).trans ct0
        replace zct : w.heap.size < v3.heap.size := Nat.lt_of_lt_of_le zct hb.size
        replace cf0 : v3.cell? ⟨w.heap.size + 1, 0, none⟩ = some (.int .i64 a) := (hb.cell (p := ⟨w.heap.size + 1, 0, none⟩) zcf).trans cf0
        replace cf1 : v3.cell? ⟨w.heap.size + 1, 1, none⟩ = some (.int .i64 p) := (hb.cell (p := ⟨w.heap.size + 1, 1, none⟩) zcf).trans cf1
        replace zcf : w.heap.size + 1 < v3.heap.size := Nat.lt_of_lt_of_le zcf hb.size
        replace cr0 : v3.cell? ⟨w.heap.size + 1 + 1, 0, none⟩ = some (.slice none 0 0) := (hb.cell (p := ⟨w.heap.size + 1 + 1, 0, none⟩) zcr).trans cr0
        replace fcr0 : v3.frozen? ⟨w.heap.size + 1 + 1, 0, none⟩ = false := (hb.frozen (p := ⟨w.heap.size + 1 + 1, 0, none⟩) zcr).trans fcr0
        replace zcr : w.heap.size + 1 + 1 < v3.heap.size := Nat.lt_of_lt_of_le zcr hb.size
        replace HB := hide (HB.out.trans (hb.mono HB.out.size))
        clear hb
        clear hok hfl hF
        obtain ⟨f, hf⟩ : ∃ f, decide (0 ≤ (endL l a p).1) = f := ⟨_, rfl⟩
        rw [hf] at HG
        simp only [hf]
        clear hf
        have HV := hide zcr
        obtain ⟨W3, hW3⟩ : ∃ W, (v3.alloc (.cells #[.slice (some ⟨b', off', none⟩) l.length c'] 25)) = W := ⟨_, rfl⟩
        have hb_W3 : Below v3.heap.size v3 W3 := by rw [← hW3]; exact ((Below.refl _ _).alloc (Nat.le_refl _) _)
        replace ct0 : W3.cell? ⟨w.heap.size, 0, none⟩ = some (.slice (some ⟨b, off, none⟩) l.length c) := (hb_W3.cell (p := ⟨w.heap.size, 0, none⟩) zct).trans ct0
        replace zct : w.heap.size < W3.heap.size := Nat.lt_of_lt_of_le zct hb_W3.size
        replace cf0 : W3.cell? ⟨w.heap.size + 1, 0, none⟩ = some (.int .i64 a) := (hb_W3.cell (p := ⟨w.heap.size + 1, 0, none⟩) zcf).trans cf0
        replace cf1 : W3.cell? ⟨w.heap.size + 1, 1, none⟩ = some (.int .i64 p) := (hb_W3.cell (p := ⟨w.heap.size + 1, 1, none⟩) zcf).trans cf1
        replace zcf : w.heap.size + 1 < W3.heap.size := Nat.lt_of_lt_of_le zcf hb_W3.size
        replace cr0 : W3.cell? ⟨w.heap.size + 1 + 1, 0, none⟩ = some (.slice none 0 0) := (hb_W3.cell (p := ⟨w.heap.size + 1 + 1, 0, none⟩) zcr).trans cr0
        replace fcr0 : W3.frozen? ⟨w.heap.size + 1 + 1, 0, none⟩ = false := (hb_W3.frozen (p := ⟨w.heap.size + 1 + 1, 0, none⟩) zcr).trans fcr0
        replace zcr : w.heap.size + 1 + 1 < W3.heap.size := Nat.lt_of_lt_of_le zcr hb_W3.size
        replace HB := hide (HB.out.trans (hb_W3.mono HB.out.size))
        clear hb_W3
        have zcx : v3.heap.size < W3.heap.size := by rw [← hW3]; simp
        have cx0 : W3.cell? ⟨v3.heap.size, 0, none⟩ = some (.slice (some ⟨b', off', none⟩) l.length c') := by rw [← hW3]; simp [go_sem]
        have hpl := putL_length l a p v t
        obtain ⟨m, hm⟩ : ∃ m, putL l a p v t = m := ⟨_, rfl⟩
        rw [hm] at HM HRd hpl
        have ho := l5own_any b' off' c' m W3 (Nat.lt_of_lt_of_le hb1 (by rw [← hW3]; simp)) (fun i hi j hj => (by rw [← hW3]; exact ((Below.refl _ v3).alloc (Nat.le_refl _) _).cell (p := ⟨b', off' + i * layS.k + j, none⟩) hb1 : W3.cell? ⟨b', off' + i * layS.k + j, none⟩ = v3.cell? ⟨b', off' + i * layS.k + j, none⟩).trans (HRd.out i hi j hj)) (by omega)
        rw [hpl] at ho
        have hsz3 : w.heap.size + 1 + 1 < W3.heap.size := zcr
        clear hm
        go_wp2_with fail
        refine (ho).mono ?_
        rintro e v4 ⟨o2, c2, rfl, hown, hb⟩
        have HO := hide hown
        clear hown
        replace ct0 : v4.cell? ⟨w.heap.size, 0, none⟩ = some (.slice (some ⟨b, off, none⟩) l.length c) := (hb.cell (p := ⟨w.heap.size, 0, none⟩) zct).trans ct0
        replace zct : w.heap.size < v4.heap.size := Nat.lt_of_lt_of_le zct hb.size
        replace cf0 : v4.cell? ⟨w.heap.size + 1, 0, none⟩ = some (.int .i64 a) := (hb.cell (p := ⟨w.heap.size + 1, 0, none⟩) zcf).trans cf0
        replace cf1 : v4.cell? ⟨w.heap.size + 1, 1, none⟩ = some (.int .i64 p) := (hb.cell (p := ⟨w.heap.size + 1, 1, none⟩) zcf).trans cf1
        replace zcf : w.heap.size + 1 < v4.heap.size := Nat.lt_of_lt_of_le zcf hb.size
        replace cr0 : v4.cell? ⟨w.heap.size + 1 + 1, 0, none⟩ = some (.slice none 0 0) := (hb.cell (p := ⟨w.heap.size + 1 + 1, 0, none⟩) zcr).trans cr0
        replace fcr0 : v4.frozen? ⟨w.heap.size + 1 + 1, 0, none⟩ = false := (hb.frozen (p := ⟨w.heap.size + 1 + 1, 0, none⟩) zcr).trans fcr0
        replace zcr : w.heap.size + 1 + 1 < v4.heap.size := Nat.lt_of_lt_of_le zcr hb.size
        replace cx0 : v4.cell? ⟨v3.heap.size, 0, none⟩ = some (.slice (some ⟨b', off', none⟩) l.length c') := (hb.cell (p := ⟨v3.heap.size, 0, none⟩) zcx).trans cx0
        replace zcx : v3.heap.size < v4.heap.size := Nat.lt_of_lt_of_le zcx hb.size
        replace HB := hide (HB.out.trans (hb.mono HB.out.size))
        clear hb
        clear ho
        go_wp2
        refine bodyPost_ret (v := .tuple #[tab (.slice o2 l.length c2), .bool f]) (by simp [results, Try.results47, go_sem, cr0]) rfl ⟨_, by rw [HG.out], ⟨_, rfl, ?_⟩, ?_⟩
        · rw [HM.out]
          have h := ownsRow_setCell_below HO.out (a := ⟨w.heap.size + 1 + 1, 0, none⟩) hsz3 (.slice o2 l.length c2)
          exact InRow.of (own_mono h (by omega))
        · exact HB.out.setCell (p := ⟨w.heap.size + 1 + 1, 0, none⟩) (by simp <;> omega) _

set_option maxHeartbeats 2000000 in
theorem put_any (g c base : Nat) (l : List Sl) (a p v t : Int) (w : World) (hn : 0 < l.length) (hl : l.length ≤ 1048576) (hf : flowOkB a p = true) (ho : w.ownsRow base CellT 5 (.slice (some ⟨g, 0, none⟩) l.length c) l.length (l.flatMap layS.cs)) :
    Calls Try.prog 61 #[tab (.slice (some ⟨g, 0, none⟩) l.length c), flow a p, leaseV v t] w fun e w' => e = .returned (.bool (decide (0 ≤ (endL l a p).1))) ∧ w'.ownsRow base CellT 5 (.slice (some ⟨g, 0, none⟩) l.length c) l.length ((putL l a p v t).flatMap layS.cs) ∧ Stp g (g + 1) w w' := by
  have HO := hide ho
  have hgw := (ho.lt g rfl).2
  clear ho
  obtain ⟨W0, hW0⟩ : ∃ W, (((w.alloc (.cells #[.slice (some ⟨g, 0, none⟩) l.length c] 78)).alloc (.cells #[.int .i64 a, .int .i64 p] 27)).alloc (.cells #[.int .i64 v, .int .i64 t] 82)) = W := ⟨_, rfl⟩
  have hb_W0 : Below w.heap.size w W0 := by rw [← hW0]; exact ((((Below.refl _ _).alloc (Nat.le_refl _) _).alloc (by simp <;> omega) _).alloc (by simp <;> omega) _)
  replace HO := hide (own_kept HO.out hb_W0)
  have HB := hide hb_W0
  clear hb_W0
  have zct : w.heap.size < W0.heap.size := by rw [← hW0]; simp <;> omega
  have ct0 : W0.cell? ⟨w.heap.size, 0, none⟩ = some (.slice (some ⟨g, 0, none⟩) l.length c) := by rw [← hW0]; simp [go_sem]
  have zcf : w.heap.size + 1 < W0.heap.size := by rw [← hW0]; simp <;> omega
  have cf0 : W0.cell? ⟨w.heap.size + 1, 0, none⟩ = some (.int .i64 a) := by rw [← hW0]; simp [go_sem]
  have cf1 : W0.cell? ⟨w.heap.size + 1, 1, none⟩ = some (.int .i64 p) := by rw [← hW0]; simp [go_sem]
  have zcl : w.heap.size + 1 + 1 < W0.heap.size := by rw [← hW0]; simp
  have cl0 : W0.cell? ⟨w.heap.size + 1 + 1, 0, none⟩ = some (.int .i64 v) := by rw [← hW0]; simp [go_sem]
  have cl1 : W0.cell? ⟨w.heap.size + 1 + 1, 1, none⟩ = some (.int .i64 t) := by rw [← hW0]; simp [go_sem]
  have hat := endOfWay_any g 0 c l a p W0 hn hl hf (HO.out.lt g rfl).2 (rd_of_own HO.out rfl)
  rcases endL_place l hn a p with h1 | ⟨k, hk, h1⟩
  · skip
    have HP := hide (putL_no (l := l) (a := a) (p := p) (v := v) (t := t) (by rw [h1]; decide))
    have HD := hide (show decide (0 ≤ (endL l a p).1) = false by rw [h1]; rfl)
    rw [h1] at hat
    generalize (endL l a p).2 = E2 at hat
    clear h1
    go_enter Try.func61, Try.ntmps61
    go_wp2_with fail
    refine (hat).mono ?_
    rintro e v1 ⟨rfl, hb⟩
    replace ct0 : v1.cell? ⟨w.heap.size, 0, none⟩ = some (.slice (some ⟨g, 0, none⟩) l.length c) := (hb.cell (p := ⟨w.heap.size, 0, none⟩) zct).trans ct0
    replace zct : w.heap.size < v1.heap.size := Nat.lt_of_lt_of_le zct hb.size
    replace cf0 : v1.cell? ⟨w.heap.size + 1, 0, none⟩ = some (.int .i64 a) := (hb.cell (p := ⟨w.heap.size + 1, 0, none⟩) zcf).trans cf0
    replace cf1 : v1.cell? ⟨w.heap.size + 1, 1, none⟩ = some (.int .i64 p) := (hb.cell (p := ⟨w.heap.size + 1, 1, none⟩) zcf).trans cf1
    replace zcf : w.heap.size + 1 < v1.heap.size := Nat.lt_of_lt_of_le zcf hb.size
    replace cl0 : v1.cell? ⟨w.heap.size + 1 + 1, 0, none⟩ = some (.int .i64 v) := (hb.cell (p := ⟨w.heap.size + 1 + 1, 0, none⟩) zcl).trans cl0
    replace cl1 : v1.cell? ⟨w.heap.size + 1 + 1, 1, none⟩ = some (.int .i64 t) := (hb.cell (p := ⟨w.heap.size + 1 + 1, 1, none⟩) zcl).trans cl1
    replace zcl : w.heap.size + 1 + 1 < v1.heap.size := Nat.lt_of_lt_of_le zcl hb.size
    replace HO := hide (own_kept HO.out hb)
    replace HB := hide (HB.out.trans (hb.mono HB.out.size))
    clear hb
    clear hat
    go_wp2
    go_ret
    exact ⟨by rw [HD.out]; rfl, by rw [HP.out]; exact HO.out, Stp.of HB.out⟩
  · skip
    have HP := hide (putL_yes (l := l) (a := a) (p := p) (v := v) (t := t) h1)
    have HD := hide (show decide (0 ≤ (endL l a p).1) = true by rw [h1]; simp)
    rw [h1] at hat
    generalize (endL l a p).2 = E2 at hat
    clear h1
    have hk' : (k : Int) < (l.length : Int) := by omega
    go_enter Try.func61, Try.ntmps61
    go_wp2_with fail
    refine (hat).mono ?_
    rintro e v1 ⟨rfl, hb⟩
    replace ct0 : v1.cell? ⟨w.heap.size, 0, none⟩ = some (.slice (some ⟨g, 0, none⟩) l.length c) := (hb.cell (p := ⟨w.heap.size, 0, none⟩) zct).trans ct0
    replace zct : w.heap.size < v1.heap.size := Nat.lt_of_lt_of_le zct hb.size
    replace cf0 : v1.cell? ⟨w.heap.size + 1, 0, none⟩ = some (.int .i64 a) := (hb.cell (p := ⟨w.heap.size + 1, 0, none⟩) zcf).trans cf0
    replace cf1 : v1.cell? ⟨w.heap.size + 1, 1, none⟩ = some (.int .i64 p) := (hb.cell (p := ⟨w.heap.size + 1, 1, none⟩) zcf).trans cf1
    replace zcf : w.heap.size + 1 < v1.heap.size := Nat.lt_of_lt_of_le zcf hb.size
    replace cl0 : v1.cell? ⟨w.heap.size + 1 + 1, 0, none⟩ = some (.int .i64 v) := (hb.cell (p := ⟨w.heap.size + 1 + 1, 0, none⟩) zcl).trans cl0
    replace cl1 : v1.cell? ⟨w.heap.size + 1 + 1, 1, none⟩ = some (.int .i64 t) := (hb.cell (p := ⟨w.heap.size + 1 + 1, 1, none⟩) zcl).trans cl1
    replace zcl : w.heap.size + 1 + 1 < v1.heap.size := Nat.lt_of_lt_of_le zcl hb.size
    replace HO := hide (own_kept HO.out hb)
    replace HB := hide (HB.out.trans (hb.mono HB.out.size))
    clear hb
    have ho : v1.ownsRow base CellT 5 (.slice (some ⟨g, 0, none⟩) l.length c) l.length (l.flatMap layS.cs) := HO.out
    have hln : (l.flatMap layS.cs).length = l.length * 5 := by rw [flat_length]; rfl
    obtain ⟨u0, hu0⟩ : ∃ u, v1.cell? ⟨g, k * 5, none⟩ = some u := ⟨_, (ho.cellAt (k * 5) (by omega)).trans (List.getElem?_eq_getElem (by omega))⟩
    have hf0 := ho.frozenAt (k * 5)
    obtain ⟨u1, hu1⟩ : ∃ u, v1.cell? ⟨g, k * 5 + 1, none⟩ = some u := ⟨_, (ho.cellAt (k * 5 + 1) (by omega)).trans (List.getElem?_eq_getElem (by omega))⟩
    have hf1 := ho.frozenAt (k * 5 + 1)
    obtain ⟨u2, hu2⟩ : ∃ u, v1.cell? ⟨g, k * 5 + 2, none⟩ = some u := ⟨_, (ho.cellAt (k * 5 + 2) (by omega)).trans (List.getElem?_eq_getElem (by omega))⟩
    have hf2 := ho.frozenAt (k * 5 + 2)
    obtain ⟨u3, hu3⟩ : ∃ u, v1.cell? ⟨g, k * 5 + 3, none⟩ = some u := ⟨_, (ho.cellAt (k * 5 + 3) (by omega)).trans (List.getElem?_eq_getElem (by omega))⟩
    have hf3 := ho.frozenAt (k * 5 + 3)
    obtain ⟨u4, hu4⟩ : ∃ u, v1.cell? ⟨g, k * 5 + 4, none⟩ = some u := ⟨_, (ho.cellAt (k * 5 + 4) (by omega)).trans (List.getElem?_eq_getElem (by omega))⟩
    have hf4 := ho.frozenAt (k * 5 + 4)
    have HS := hide (stored5 (k := k) ⟨true, a, p, v, t⟩ (Nat.le_refl g) ho (Below.refl g v1))
    have HSt := hide ((Stp.of (lo := g) (hi := g + 1) HB.out).trans (stp_set5 v1 g k ⟨true, a, p, v, t⟩))
    clear ho hln hat
    go_wp2
    go_ret
    exact ⟨by rw [HD.out]; rfl, by rw [HP.out]; exact HS.out.1, HSt.out⟩

set_option maxHeartbeats 4000000 in
theorem implPut_any (o : Option Addr) (c : Nat) (l : List Sl) (a p v t : Int) (w : World) (hR : RdS w.heap.size w o l) (hl : l.length ≤ 1048576) :
    Calls Try.prog 18 #[tab (.slice o l.length c), flow a p, .int .i64 v, .int .i64 t] w fun e w' => ∃ v', e = .returned (.tuple #[v', .bool (putB l a p v t)]) ∧ InT w.heap.size w'.heap.size w' v' (putM l a p v t) ∧ Below w.heap.size w w' := by
  obtain ⟨W0, hW0⟩ : ∃ W, (((w.alloc (.cells #[.slice o l.length c] 25)).alloc (.cells #[.int .i64 a, .int .i64 p] 27)).alloc (.cells #[.slice none 0 0] 25)) = W := ⟨_, rfl⟩
  have hb_W0 : Below w.heap.size w W0 := by rw [← hW0]; exact ((((Below.refl _ _).alloc (Nat.le_refl _) _).alloc (by simp <;> omega) _).alloc (by simp <;> omega) _)
  have HB := hide hb_W0
  clear hb_W0
  have zct : w.heap.size < W0.heap.size := by rw [← hW0]; simp <;> omega
  have ct0 : W0.cell? ⟨w.heap.size, 0, none⟩ = some (.slice o l.length c) := by rw [← hW0]; simp [go_sem]
  have zcf : w.heap.size + 1 < W0.heap.size := by rw [← hW0]; simp <;> omega
  have cf0 : W0.cell? ⟨w.heap.size + 1, 0, none⟩ = some (.int .i64 a) := by rw [← hW0]; simp [go_sem]
  have cf1 : W0.cell? ⟨w.heap.size + 1, 1, none⟩ = some (.int .i64 p) := by rw [← hW0]; simp [go_sem]
  have zcr : w.heap.size + 1 + 1 < W0.heap.size := by rw [← hW0]; simp
  have cr0 : W0.cell? ⟨w.heap.size + 1 + 1, 0, none⟩ = some (.slice none 0 0) := by rw [← hW0]; simp [go_sem]
  have fcr0 : W0.frozen? ⟨w.heap.size + 1 + 1, 0, none⟩ = false := by rw [← hW0]; simp [go_sem]
  have HZ := hide zcr
  have hw00 := HB.out.size
  have hc := tableFor_any o c l a p W0 ((hR.kept HB.out (Nat.le_refl _)).le HB.out.size) hl
  cases hT : (tableOkB l && flowOkB a p) with
  | false =>
    have HM := hide (show putM l a p v t = [] by unfold putM putOk; rw [hT]; rfl)
    have HG := hide (show putB l a p v t = false by unfold putB putOk; rw [hT]; rfl)
    rw [hT] at hc
    go_enter Try.func18, Try.ntmps18
    go_wp2_with fail
    refine (hc).mono ?_
    rintro e v1 ⟨o', n', c', rfl, hv, hb⟩
    replace ct0 : v1.cell? ⟨w.heap.size, 0, none⟩ = some (.slice o l.length c) := (hb.cell (p := ⟨w.heap.size, 0, none⟩) zct).trans ct0
    replace zct : w.heap.size < v1.heap.size := Nat.lt_of_lt_of_le zct hb.size
    replace cf0 : v1.cell? ⟨w.heap.size + 1, 0, none⟩ = some (.int .i64 a) := (hb.cell (p := ⟨w.heap.size + 1, 0, none⟩) zcf).trans cf0
    replace cf1 : v1.cell? ⟨w.heap.size + 1, 1, none⟩ = some (.int .i64 p) := (hb.cell (p := ⟨w.heap.size + 1, 1, none⟩) zcf).trans cf1
    replace zcf : w.heap.size + 1 < v1.heap.size := Nat.lt_of_lt_of_le zcf hb.size
    replace cr0 : v1.cell? ⟨w.heap.size + 1 + 1, 0, none⟩ = some (.slice none 0 0) := (hb.cell (p := ⟨w.heap.size + 1 + 1, 0, none⟩) zcr).trans cr0
    replace fcr0 : v1.frozen? ⟨w.heap.size + 1 + 1, 0, none⟩ = false := (hb.frozen (p := ⟨w.heap.size + 1 + 1, 0, none⟩) zcr).trans fcr0
    replace zcr : w.heap.size + 1 + 1 < v1.heap.size := Nat.lt_of_lt_of_le zcr hb.size
    replace HB := hide (HB.out.trans (hb.mono HB.out.size))
    clear hb
    obtain ⟨W2, hW2⟩ : ∃ W, ((v1.alloc (.cells #[.slice o' n' c'] 78)).alloc (.cells #[.int .i64 v, .int .i64 t] 82)) = W := ⟨_, rfl⟩
    have hb_W2 : Below v1.heap.size v1 W2 := by rw [← hW2]; exact (((Below.refl _ _).alloc (Nat.le_refl _) _).alloc (by simp <;> omega) _)
    replace ct0 : W2.cell? ⟨w.heap.size, 0, none⟩ = some (.slice o l.length c) := (hb_W2.cell (p := ⟨w.heap.size, 0, none⟩) zct).trans ct0
    replace zct : w.heap.size < W2.heap.size := Nat.lt_of_lt_of_le zct hb_W2.size
    replace cf0 : W2.cell? ⟨w.heap.size + 1, 0, none⟩ = some (.int .i64 a) := (hb_W2.cell (p := ⟨w.heap.size + 1, 0, none⟩) zcf).trans cf0
    replace cf1 : W2.cell? ⟨w.heap.size + 1, 1, none⟩ = some (.int .i64 p) := (hb_W2.cell (p := ⟨w.heap.size + 1, 1, none⟩) zcf).trans cf1
    replace zcf : w.heap.size + 1 < W2.heap.size := Nat.lt_of_lt_of_le zcf hb_W2.size
    replace cr0 : W2.cell? ⟨w.heap.size + 1 + 1, 0, none⟩ = some (.slice none 0 0) := (hb_W2.cell (p := ⟨w.heap.size + 1 + 1, 0, none⟩) zcr).trans cr0
    replace fcr0 : W2.frozen? ⟨w.heap.size + 1 + 1, 0, none⟩ = false := (hb_W2.frozen (p := ⟨w.heap.size + 1 + 1, 0, none⟩) zcr).trans fcr0
    replace zcr : w.heap.size + 1 + 1 < W2.heap.size := Nat.lt_of_lt_of_le zcr hb_W2.size
    replace HB := hide (HB.out.trans (hb_W2.mono HB.out.size))
    clear hb_W2
    have zck : v1.heap.size < W2.heap.size := by rw [← hW2]; simp <;> omega
    have ck0 : W2.cell? ⟨v1.heap.size, 0, none⟩ = some (.slice o' n' c') := by rw [← hW2]; simp [go_sem]
    have zcl : v1.heap.size + 1 < W2.heap.size := by rw [← hW2]; simp
    have cl0 : W2.cell? ⟨v1.heap.size + 1, 0, none⟩ = some (.int .i64 v) := by rw [← hW2]; simp [go_sem]
    have cl1 : W2.cell? ⟨v1.heap.size + 1, 1, none⟩ = some (.int .i64 t) := by rw [← hW2]; simp [go_sem]
    clear hc hv hT
    go_wp2
    refine bodyPost_ret (v := .tuple #[tab (.slice none 0 0), .bool false]) (by simp [results, Try.results18, go_sem, cr0]) rfl ⟨_, by rw [HG.out], ⟨_, rfl, ?_⟩, ?_⟩
    · rw [HM.out]; exact InRow.of (World.ownsRow_nil _ _ _ _)
    · exact HB.out.setCell (p := ⟨w.heap.size + 1 + 1, 0, none⟩) (by simp <;> omega) _
  | true =>
    rw [hT] at hc
    obtain ⟨hT1, hT2⟩ := (Bool.and_eq_true _ _).mp hT
    have hn := (tableOkB_iff.1 hT1).1
    cases hL : leaseB v t with
    | false =>
      have HM := hide (show putM l a p v t = [] by unfold putM putOk; rw [hT, hL]; rfl)
      have HG := hide (show putB l a p v t = false by unfold putB putOk; rw [hT, hL]; rfl)
      go_enter Try.func18, Try.ntmps18
      go_wp2_with fail
      refine (hc).mono ?_
      rintro e v1 ⟨o', n', c', rfl, hv, hb⟩
      replace ct0 : v1.cell? ⟨w.heap.size, 0, none⟩ = some (.slice o l.length c) := (hb.cell (p := ⟨w.heap.size, 0, none⟩) zct).trans ct0
      replace zct : w.heap.size < v1.heap.size := Nat.lt_of_lt_of_le zct hb.size
      replace cf0 : v1.cell? ⟨w.heap.size + 1, 0, none⟩ = some (.int .i64 a) := (hb.cell (p := ⟨w.heap.size + 1, 0, none⟩) zcf).trans cf0
      replace cf1 : v1.cell? ⟨w.heap.size + 1, 1, none⟩ = some (.int .i64 p) := (hb.cell (p := ⟨w.heap.size + 1, 1, none⟩) zcf).trans cf1
      replace zcf : w.heap.size + 1 < v1.heap.size := Nat.lt_of_lt_of_le zcf hb.size
      replace cr0 : v1.cell? ⟨w.heap.size + 1 + 1, 0, none⟩ = some (.slice none 0 0) := (hb.cell (p := ⟨w.heap.size + 1 + 1, 0, none⟩) zcr).trans cr0
      replace fcr0 : v1.frozen? ⟨w.heap.size + 1 + 1, 0, none⟩ = false := (hb.frozen (p := ⟨w.heap.size + 1 + 1, 0, none⟩) zcr).trans fcr0
      replace zcr : w.heap.size + 1 + 1 < v1.heap.size := Nat.lt_of_lt_of_le zcr hb.size
      replace HB := hide (HB.out.trans (hb.mono HB.out.size))
      clear hb
      obtain ⟨W2, hW2⟩ : ∃ W, ((v1.alloc (.cells #[.slice o' n' c'] 78)).alloc (.cells #[.int .i64 v, .int .i64 t] 82)) = W := ⟨_, rfl⟩
      have hb_W2 : Below v1.heap.size v1 W2 := by rw [← hW2]; exact (((Below.refl _ _).alloc (Nat.le_refl _) _).alloc (by simp <;> omega) _)
      replace ct0 : W2.cell? ⟨w.heap.size, 0, none⟩ = some (.slice o l.length c) := (hb_W2.cell (p := ⟨w.heap.size, 0, none⟩) zct).trans ct0
      replace zct : w.heap.size < W2.heap.size := Nat.lt_of_lt_of_le zct hb_W2.size
      replace cf0 : W2.cell? ⟨w.heap.size + 1, 0, none⟩ = some (.int .i64 a) := (hb_W2.cell (p := ⟨w.heap.size + 1, 0, none⟩) zcf).trans cf0
      replace cf1 : W2.cell? ⟨w.heap.size + 1, 1, none⟩ = some (.int .i64 p) := (hb_W2.cell (p := ⟨w.heap.size + 1, 1, none⟩) zcf).trans cf1
      replace zcf : w.heap.size + 1 < W2.heap.size := Nat.lt_of_lt_of_le zcf hb_W2.size
      replace cr0 : W2.cell? ⟨w.heap.size + 1 + 1, 0, none⟩ = some (.slice none 0 0) := (hb_W2.cell (p := ⟨w.heap.size + 1 + 1, 0, none⟩) zcr).trans cr0
      replace fcr0 : W2.frozen? ⟨w.heap.size + 1 + 1, 0, none⟩ = false := (hb_W2.frozen (p := ⟨w.heap.size + 1 + 1, 0, none⟩) zcr).trans fcr0
      replace zcr : w.heap.size + 1 + 1 < W2.heap.size := Nat.lt_of_lt_of_le zcr hb_W2.size
      replace HB := hide (HB.out.trans (hb_W2.mono HB.out.size))
      clear hb_W2
      have zck : v1.heap.size < W2.heap.size := by rw [← hW2]; simp <;> omega
      have ck0 : W2.cell? ⟨v1.heap.size, 0, none⟩ = some (.slice o' n' c') := by rw [← hW2]; simp [go_sem]
      have zcl : v1.heap.size + 1 < W2.heap.size := by rw [← hW2]; simp
      have cl0 : W2.cell? ⟨v1.heap.size + 1, 0, none⟩ = some (.int .i64 v) := by rw [← hW2]; simp [go_sem]
      have cl1 : W2.cell? ⟨v1.heap.size + 1, 1, none⟩ = some (.int .i64 t) := by rw [← hW2]; simp [go_sem]
      have hlo := leaseOk_any v t W2
      rw [hL] at hlo
      go_wp2_with fail
      refine (hlo).mono ?_
      rintro e v2 ⟨rfl, hb⟩
      replace ct0 : v2.cell? ⟨w.heap.size, 0, none⟩ = some (.slice o l.length c) := (hb.cell (p := ⟨w.heap.size, 0, none⟩) zct).trans ct0
      replace zct : w.heap.size < v2.heap.size := Nat.lt_of_lt_of_le zct hb.size
      replace cf0 : v2.cell? ⟨w.heap.size + 1, 0, none⟩ = some (.int .i64 a) := (hb.cell (p := ⟨w.heap.size + 1, 0, none⟩) zcf).trans cf0
      replace cf1 : v2.cell? ⟨w.heap.size + 1, 1, none⟩ = some (.int .i64 p) := (hb.cell (p := ⟨w.heap.size + 1, 1, none⟩) zcf).trans cf1
      replace zcf : w.heap.size + 1 < v2.heap.size := Nat.lt_of_lt_of_le zcf hb.size
      replace cr0 : v2.cell? ⟨w.heap.size + 1 + 1, 0, none⟩ = some (.slice none 0 0) := (hb.cell (p := ⟨w.heap.size + 1 + 1, 0, none⟩) zcr).trans cr0
      replace fcr0 : v2.frozen? ⟨w.heap.size + 1 + 1, 0, none⟩ = false := (hb.frozen (p := ⟨w.heap.size + 1 + 1, 0, none⟩) zcr).trans fcr0
      replace zcr : w.heap.size + 1 + 1 < v2.heap.size := Nat.lt_of_lt_of_le zcr hb.size
      replace ck0 : v2.cell? ⟨v1.heap.size, 0, none⟩ = some (.slice o' n' c') := (hb.cell (p := ⟨v1.heap.size, 0, none⟩) zck).trans ck0
      replace zck : v1.heap.size < v2.heap.size := Nat.lt_of_lt_of_le zck hb.size
      replace cl0 : v2.cell? ⟨v1.heap.size + 1, 0, none⟩ = some (.int .i64 v) := (hb.cell (p := ⟨v1.heap.size + 1, 0, none⟩) zcl).trans cl0
      replace cl1 : v2.cell? ⟨v1.heap.size + 1, 1, none⟩ = some (.int .i64 t) := (hb.cell (p := ⟨v1.heap.size + 1, 1, none⟩) zcl).trans cl1
      replace zcl : v1.heap.size + 1 < v2.heap.size := Nat.lt_of_lt_of_le zcl hb.size
      replace HB := hide (HB.out.trans (hb.mono HB.out.size))
      clear hb
      clear hc hv hT hT1 hT2 hL hlo
      go_wp2
      refine bodyPost_ret (v := .tuple #[tab (.slice none 0 0), .bool false]) (by simp [results, Try.results18, go_sem, cr0]) rfl ⟨_, by rw [HG.out], ⟨_, rfl, ?_⟩, ?_⟩
      · rw [HM.out]; exact InRow.of (World.ownsRow_nil _ _ _ _)
      · exact HB.out.setCell (p := ⟨w.heap.size + 1 + 1, 0, none⟩) (by simp <;> omega) _
    | true =>
      have HM := hide (show putM l a p v t = putL l a p v t by unfold putM putOk; rw [hT, hL]; rfl)
      have HG := hide (show putB l a p v t = decide (0 ≤ (endL l a p).1) by unfold putB putOk; rw [hT, hL]; rfl)
      go_enter Try.func18, Try.ntmps18
      go_wp2_with fail
      refine (hc).mono ?_
      rintro e v1 ⟨o', n', c', rfl, hv, hb⟩
      obtain ⟨g, rfl, rfl, rfl, hown⟩ := hv (by simp)
      have HO := hide hown
      have hg0 := (hown.lt g rfl).1
      have hg1 := (hown.lt g rfl).2
      clear hown hv
      replace ct0 : v1.cell? ⟨w.heap.size, 0, none⟩ = some (.slice o l.length c) := (hb.cell (p := ⟨w.heap.size, 0, none⟩) zct).trans ct0
      replace zct : w.heap.size < v1.heap.size := Nat.lt_of_lt_of_le zct hb.size
      replace cf0 : v1.cell? ⟨w.heap.size + 1, 0, none⟩ = some (.int .i64 a) := (hb.cell (p := ⟨w.heap.size + 1, 0, none⟩) zcf).trans cf0
      replace cf1 : v1.cell? ⟨w.heap.size + 1, 1, none⟩ = some (.int .i64 p) := (hb.cell (p := ⟨w.heap.size + 1, 1, none⟩) zcf).trans cf1
      replace zcf : w.heap.size + 1 < v1.heap.size := Nat.lt_of_lt_of_le zcf hb.size
      replace cr0 : v1.cell? ⟨w.heap.size + 1 + 1, 0, none⟩ = some (.slice none 0 0) := (hb.cell (p := ⟨w.heap.size + 1 + 1, 0, none⟩) zcr).trans cr0
      replace fcr0 : v1.frozen? ⟨w.heap.size + 1 + 1, 0, none⟩ = false := (hb.frozen (p := ⟨w.heap.size + 1 + 1, 0, none⟩) zcr).trans fcr0
      replace zcr : w.heap.size + 1 + 1 < v1.heap.size := Nat.lt_of_lt_of_le zcr hb.size
      replace HB := hide (HB.out.trans (hb.mono HB.out.size))
      clear hb
      obtain ⟨W2, hW2⟩ : ∃ W, ((v1.alloc (.cells #[.slice (some ⟨g, 0, none⟩) l.length l.length] 78)).alloc (.cells #[.int .i64 v, .int .i64 t] 82)) = W := ⟨_, rfl⟩
      have hb_W2 : Below v1.heap.size v1 W2 := by rw [← hW2]; exact (((Below.refl _ _).alloc (Nat.le_refl _) _).alloc (by simp <;> omega) _)
      replace ct0 : W2.cell? ⟨w.heap.size, 0, none⟩ = some (.slice o l.length c) := (hb_W2.cell (p := ⟨w.heap.size, 0, none⟩) zct).trans ct0
      replace zct : w.heap.size < W2.heap.size := Nat.lt_of_lt_of_le zct hb_W2.size
      replace cf0 : W2.cell? ⟨w.heap.size + 1, 0, none⟩ = some (.int .i64 a) := (hb_W2.cell (p := ⟨w.heap.size + 1, 0, none⟩) zcf).trans cf0
      replace cf1 : W2.cell? ⟨w.heap.size + 1, 1, none⟩ = some (.int .i64 p) := (hb_W2.cell (p := ⟨w.heap.size + 1, 1, none⟩) zcf).trans cf1
      replace zcf : w.heap.size + 1 < W2.heap.size := Nat.lt_of_lt_of_le zcf hb_W2.size
      replace cr0 : W2.cell? ⟨w.heap.size + 1 + 1, 0, none⟩ = some (.slice none 0 0) := (hb_W2.cell (p := ⟨w.heap.size + 1 + 1, 0, none⟩) zcr).trans cr0
      replace fcr0 : W2.frozen? ⟨w.heap.size + 1 + 1, 0, none⟩ = false := (hb_W2.frozen (p := ⟨w.heap.size + 1 + 1, 0, none⟩) zcr).trans fcr0
      replace zcr : w.heap.size + 1 + 1 < W2.heap.size := Nat.lt_of_lt_of_le zcr hb_W2.size
      replace HO := hide (own_kept HO.out hb_W2)
      replace HB := hide (HB.out.trans (hb_W2.mono HB.out.size))
      clear hb_W2
      have zck : v1.heap.size < W2.heap.size := by rw [← hW2]; simp <;> omega
      have ck0 : W2.cell? ⟨v1.heap.size, 0, none⟩ = some (.slice (some ⟨g, 0, none⟩) l.length l.length) := by rw [← hW2]; simp [go_sem]
      have zcl : v1.heap.size + 1 < W2.heap.size := by rw [← hW2]; simp
      have cl0 : W2.cell? ⟨v1.heap.size + 1, 0, none⟩ = some (.int .i64 v) := by rw [← hW2]; simp [go_sem]
      have cl1 : W2.cell? ⟨v1.heap.size + 1, 1, none⟩ = some (.int .i64 t) := by rw [← hW2]; simp [go_sem]
      have hlo := leaseOk_any v t W2
      rw [hL] at hlo
      go_wp2_with fail
      refine (hlo).mono ?_
      rintro e v2 ⟨rfl, hb⟩
      replace ct0 : v2.cell? ⟨w.heap.size, 0, none⟩ = some (.slice o l.length c) := (hb.cell (p := ⟨w.heap.size, 0, none⟩) zct).trans ct0
      replace zct : w.heap.size < v2.heap.size := Nat.lt_of_lt_of_le zct hb.size
      replace cf0 : v2.cell? ⟨w.heap.size + 1, 0, none⟩ = some (.int .i64 a) := (hb.cell (p := ⟨w.heap.size + 1, 0, none⟩) zcf).trans cf0
      replace cf1 : v2.cell? ⟨w.heap.size + 1, 1, none⟩ = some (.int .i64 p) := (hb.cell (p := ⟨w.heap.size + 1, 1, none⟩) zcf).trans cf1
      replace zcf : w.heap.size + 1 < v2.heap.size := Nat.lt_of_lt_of_le zcf hb.size
      replace cr0 : v2.cell? ⟨w.heap.size + 1 + 1, 0, none⟩ = some (.slice none 0 0) := (hb.cell (p := ⟨w.heap.size + 1 + 1, 0, none⟩) zcr).trans cr0
      replace fcr0 : v2.frozen? ⟨w.heap.size + 1 + 1, 0, none⟩ = false := (hb.frozen (p := ⟨w.heap.size + 1 + 1, 0, none⟩) zcr).trans fcr0
      replace zcr : w.heap.size + 1 + 1 < v2.heap.size := Nat.lt_of_lt_of_le zcr hb.size
      replace ck0 : v2.cell? ⟨v1.heap.size, 0, none⟩ = some (.slice (some ⟨g, 0, none⟩) l.length l.length) := (hb.cell (p := ⟨v1.heap.size, 0, none⟩) zck).trans ck0
      replace zck : v1.heap.size < v2.heap.size := Nat.lt_of_lt_of_le zck hb.size
      replace cl0 : v2.cell? ⟨v1.heap.size + 1, 0, none⟩ = some (.int .i64 v) := (hb.cell (p := ⟨v1.heap.size + 1, 0, none⟩) zcl).trans cl0
      replace cl1 : v2.cell? ⟨v1.heap.size + 1, 1, none⟩ = some (.int .i64 t) := (hb.cell (p := ⟨v1.heap.size + 1, 1, none⟩) zcl).trans cl1
      replace zcl : v1.heap.size + 1 < v2.heap.size := Nat.lt_of_lt_of_le zcl hb.size
      replace HO := hide (own_kept HO.out hb)
      replace HB := hide (HB.out.trans (hb.mono HB.out.size))
      clear hb
      go_wp2_with fail
      refine (put_any g l.length W0.heap.size l a p v t v2 (by omega) hl hT2 HO.out).mono ?_
      rintro e v3 ⟨rfl, ho2, hst⟩
      have HO2 := hide ho2
      have HSt := hide hst
      clear ho2 hst HO
      have cr0' : v3.cell? ⟨w.heap.size + 1 + 1, 0, none⟩ = some (.slice none 0 0) := HSt.out.cell cr0 zcr (.inl (by have := HZ.out; omega))
      have fcr0' : v3.frozen? ⟨w.heap.size + 1 + 1, 0, none⟩ = false := HSt.out.frozen fcr0 zcr (.inl (by have := HZ.out; omega))
      have zcr' : w.heap.size + 1 + 1 < v3.heap.size := Nat.lt_of_lt_of_le zcr HSt.out.size
      have ck0' : v3.cell? ⟨v1.heap.size, 0, none⟩ = some (.slice (some ⟨g, 0, none⟩) l.length l.length) := HSt.out.cell ck0 zck (.inr (by omega))
      have zck' : v1.heap.size < v3.heap.size := Nat.lt_of_lt_of_le zck HSt.out.size
      have HB' := hide (HB.out.trans (HSt.out.below (by omega) HB.out.size))
      clear HB hc hlo hT hT1 hT2 hL HSt ct0 cf0 cf1 cr0 ck0 cl0 cl1 fcr0 zct zcf zcr zck zcl
      have HB := HB'
      clear HB'
      have cr0 := cr0'
      have fcr0 := fcr0'
      have zcr := zcr'
      have ck0 := ck0'
      have zck := zck'
      clear cr0' fcr0' zcr' ck0' zck'
      have hpl := putL_length l a p v t
      obtain ⟨m, hm⟩ : ∃ m, putL l a p v t = m := ⟨_, rfl⟩
      rw [hm] at HM HO2 hpl
      have hpt := plainTable_any g 0 l.length m v3 (HO2.out.lt g rfl).2 (rd_of_own HO2.out hpl.symm) (by omega)
      rw [hpl] at hpt
      have hszn : w.heap.size + 1 + 1 < v3.heap.size := zcr
      clear hm
      obtain ⟨f, hf⟩ : ∃ f, decide (0 ≤ (endL l a p).1) = f := ⟨_, rfl⟩
      rw [hf] at HG
      simp only [hf]
      clear hf
      go_wp2_with fail
      refine (hpt).mono ?_
      rintro e v4 ⟨g2, rfl, hown, hb⟩
      have HO3 := hide hown
      clear hown
      replace cr0 : v4.cell? ⟨w.heap.size + 1 + 1, 0, none⟩ = some (.slice none 0 0) := (hb.cell (p := ⟨w.heap.size + 1 + 1, 0, none⟩) zcr).trans cr0
      replace fcr0 : v4.frozen? ⟨w.heap.size + 1 + 1, 0, none⟩ = false := (hb.frozen (p := ⟨w.heap.size + 1 + 1, 0, none⟩) zcr).trans fcr0
      replace zcr : w.heap.size + 1 + 1 < v4.heap.size := Nat.lt_of_lt_of_le zcr hb.size
      replace ck0 : v4.cell? ⟨v1.heap.size, 0, none⟩ = some (.slice (some ⟨g, 0, none⟩) l.length l.length) := (hb.cell (p := ⟨v1.heap.size, 0, none⟩) zck).trans ck0
      replace zck : v1.heap.size < v4.heap.size := Nat.lt_of_lt_of_le zck hb.size
      replace HB := hide (HB.out.trans (hb.mono HB.out.size))
      clear hb
      clear hpt
      go_wp2
      refine bodyPost_ret (v := .tuple #[tab (.slice (some ⟨g2, 0, none⟩) l.length l.length), .bool f]) (by simp [results, Try.results18, go_sem, cr0]) rfl ⟨_, by rw [HG.out], ⟨_, rfl, ?_⟩, ?_⟩
      · rw [HM.out]
        have h := ownsRow_setCell_below HO3.out (a := ⟨w.heap.size + 1 + 1, 0, none⟩) hszn (.slice (some ⟨g2, 0, none⟩) l.length l.length)
        exact InRow.of (own_mono h (by omega))
      · exact HB.out.setCell (p := ⟨w.heap.size + 1 + 1, 0, none⟩) (by simp <;> omega) _

theorem specPut_sh (v0 : Value) (m : List Sl) (a p v t : Int) (w : World) (hR : RdT w.heap.size w v0 m) (hf : m.length ≤ 1048576) :
    Calls Try.prog 47 #[v0, flow a p, .int .i64 v, .int .i64 t] w fun e w' => ∃ v', e = .returned (.tuple #[v', .bool (putB m a p v t)]) ∧ InT w.heap.size w'.heap.size w' v' (putM m a p v t) ∧ Below w.heap.size w w' := by
  obtain ⟨vl, rfl, o, c, rfl, r⟩ := hR
  exact specPut_any o c m a p v t w r hf

theorem implPut_sh (v0 : Value) (m : List Sl) (a p v t : Int) (w : World) (hR : RdT w.heap.size w v0 m) (hf : m.length ≤ 1048576) :
    Calls Try.prog 18 #[v0, flow a p, .int .i64 v, .int .i64 t] w fun e w' => ∃ v', e = .returned (.tuple #[v', .bool (putB m a p v t)]) ∧ InT w.heap.size w'.heap.size w' v' (putM m a p v t) ∧ Below w.heap.size w w' := by
  obtain ⟨vl, rfl, o, c, rfl, r⟩ := hR
  exact implPut_any o c m a p v t w r hf

end Go.Proofs.Ytiijecnhbioehaa

/- What comes nearer: the loop's invariant, as the model has it. -/
namespace Go.Proofs.Ytiijecnhbioehaa
open Go.ChangeShapes Go.WideShapes Go.ChangeAt Go.RowKit Go.Joins
set_option linter.unusedVariables false
set_option linter.unusedSimpArgs false

theorem Stp.drew {lo hi : Nat} {w w' : World} (h : Stp lo hi w w') : Stp lo hi w w'.drew := ⟨h.os, h.tape, h.output, h.size, h.block⟩
/-- Whoever is there has a flow that may be. -/
def flowsOk (m : List Sl) : Prop := ∀ j, j < m.length → (m.getD j sl0).u = true → flowOkB (m.getD j sl0).a (m.getD j sl0).p = true
theorem flowsOk_of {l : List Sl} (h : tableOkB l = true) : flowsOk l := fun j hj hu => by
  have ht := (tableOkB_iff.1 h).2.2 j hj
  unfold tabAt at ht
  exact ((slotB_used hu).1 ((Bool.and_eq_true _ _).mp ht).1).1
theorem flowsOk_set {m : List Sl} (h : flowsOk m) (i : Nat) (s : Sl) (hs : s.u = true → flowOkB s.a s.p = true) : flowsOk (m.set i s) := fun j hj hu => by
  rw [List.length_set] at hj
  by_cases e : i = j
  · subst e
    rw [getD_set_self _ _ _ hj] at hu ⊢
    exact hs hu
  · rw [getD_set_ne _ _ _ _ e] at hu ⊢
    exact h j hj hu
structure DropInv (n : Nat) (R : List Sl) (g : Nat) (m : List Sl) (i k : Nat) : Prop where
  len : m.length = n
  le : n ≤ 16
  hi : i < n
  hk : k < n
  free : (m.getD i sl0).u = false
  ok : flowsOk m
  go : dropGo n (g + 1) m i k = R
  ms : meas m i k ≤ g
theorem DropInv.done {n g i k : Nat} {R m : List Sl} (h : DropInv n R g m i k) (hu : (m.getD k sl0).u = false) : m = R := by
  rw [← h.go, dropGo_end hu]
theorem DropInv.move {n g i k : Nat} {R m : List Sl} (h : DropInv n R g m i k) (hu : (m.getD k sl0).u = true) (hm : moves n m i k = true) : 1 ≤ g ∧ DropInv n R (g - 1) ((m.set i (m.getD k sl0)).set k sl0) k ((k + 1) % n) := by
  obtain ⟨hlen, hle, hi, hk, hfree, hok, hgo, hms⟩ := h
  subst hlen
  have hd := meas_move hle hi hk hfree hu hm
  have hg : 1 ≤ g := by omega
  refine ⟨hg, by simp, hle, hk, next_lt (by omega) k, ?_, ?_, ?_, ?_⟩
  · rw [getD_set_self _ _ _ (by simpa using hk)]
  · exact flowsOk_set (flowsOk_set hok i _ (fun hq => hok k hk hq)) k _ (fun hq => by cases hq)
  · rw [← hgo, dropGo_move hu hm, show g - 1 + 1 = g by omega]
  · omega
theorem DropInv.stay {n g i k : Nat} {R m : List Sl} (h : DropInv n R g m i k) (hu : (m.getD k sl0).u = true) (hm : moves n m i k = false) : 1 ≤ g ∧ DropInv n R (g - 1) m i ((k + 1) % n) := by
  obtain ⟨hlen, hle, hi, hk, hfree, hok, hgo, hms⟩ := h
  subst hlen
  have hne : k ≠ i := fun e => by rw [e, hfree] at hu; cases hu
  have hd := meas_stay hi hk hne
  have hg : 1 ≤ g := by omega
  refine ⟨hg, rfl, hle, hi, next_lt (by omega) k, hfree, hok, ?_, by omega⟩
  rw [← hgo, dropGo_stay hu hm, show g - 1 + 1 = g by omega]
theorem DropInv.start {l : List Sl} {i : Nat} (hle : l.length ≤ 16) (hi : i < l.length) (hok : flowsOk l) : DropInv l.length (dropAtL l i) (meas (l.set i sl0) i ((i + 1) % l.length)) (l.set i sl0) i ((i + 1) % l.length) :=
  ⟨by simp, hle, hi, next_lt (by omega) i, by rw [getD_set_self _ _ _ hi], flowsOk_set hok i _ (fun h => by cases h), rfl, Nat.le_refl _⟩
theorem moves_iff {n i k : Nat} {m : List Sl} : moves n m i k = true ↔ farN n i k ≤ farN n (homeN n (m.getD k sl0).a (m.getD k sl0).p) k := by simp [moves]
theorem dropGo_length (n : Nat) : ∀ (f : Nat) (l : List Sl) (i k : Nat), (dropGo n f l i k).length = l.length
  | 0, l, i, k => rfl
  | f + 1, l, i, k => by
    unfold dropGo
    split
    · split
      · rw [dropGo_length n f]; simp
      · rw [dropGo_length n f]
    · rfl
theorem dropAtL_length (l : List Sl) (i : Nat) : (dropAtL l i).length = l.length := by unfold dropAtL; rw [dropGo_length]; simp
/-- What is dropped. -/
def dropL (l : List Sl) (a p : Int) : List Sl := if (endL l a p).2 = true then dropAtL l (endL l a p).1.toNat else l
theorem dropL_length (l : List Sl) (a p : Int) : (dropL l a p).length = l.length := by
  unfold dropL
  split
  · exact dropAtL_length _ _
  · rfl
theorem dropL_no {l : List Sl} {a p : Int} (h : (endL l a p).2 = false) : dropL l a p = l := by unfold dropL; rw [h]; rfl
theorem dropL_yes {l : List Sl} {a p : Int} {k : Nat} (h : endL l a p = ((k : Int), true)) : dropL l a p = dropAtL l k := by unfold dropL; rw [h]; simp

end Go.Proofs.Ytiijecnhbioehaa

/- The laws' marks in a row of impl.Flow. -/
namespace Go.Proofs.Ytiijecnhbioehaa
open Go.ChangeShapes Go.WideShapes Go.ChangeAt Go.RowKit Go.Joins
set_option linter.unusedVariables false
set_option linter.unusedSimpArgs false

def mkFl (k : Int) := ((k, k + 1) : _)

set_option maxHeartbeats 2000000 in
theorem markFlowS_any (base : Nat) (v : Value) (l : List _) (k : Int) (w : World) (hv : ownL layF 27 w base v l) (h0 : 0 ≤ k) (h1 : k ≤ 1073741824) (hlen : l.length ≤ 1048576) :
    Calls Try.prog 54 #[v, .int .i64 k] w fun e w' => e = .returned (.int .i64 (k + 2 * l.length)) ∧ ownL layF 27 w' base v (mkL mkFl 2 k l.length) ∧ w.grownBy w' v.ownBlock := by
  rcases hv.2 with ⟨rfl, h2⟩ | ⟨g, cap, cur, rfl, hg, _⟩
  · have e : l = [] := List.eq_nil_of_length_eq_zero h2
    subst e
    go_enter Try.func54, Try.ntmps54
    go_wp2
    refine wp_loop_rounds 1 ?_
    rw [rounds_succ]
    go_wp2
    go_ret
    exact ⟨by simp, by simpa [mkL] using hv, World.grownBy.refl _ _⟩
  · have hv0 : w.ownsRow base 27 2 (.slice (some ⟨g, 0, none⟩) l.length cap) l.length ((mkTo mkFl 2 l k 0).flatMap layF.cs) := by rw [mkTo_zero]; exact hv
    go_enter Try.func54, Try.ntmps54
    go_wp2
    go_loopw [1, 5] (fun q j wr => ∃ i : Nat, i ≤ l.length ∧ j = .int .i64 i ∧ q = .int .i64 (k + 2 * (i : Int)) ∧ wr.ownsRow base 27 2 (.slice (some ⟨g, 0, none⟩) l.length cap) l.length ((mkTo mkFl 2 l k i).flatMap layF.cs) ∧ w.grownBy wr (some g))
      (fun _ j _ => l.length - (intOf j).toNat)
    case atStart => exact ⟨0, Nat.zero_le _, rfl, by simp, hv0, World.grownBy.refl _ _⟩
    case round =>
      obtain ⟨i, hi, rfl, rfl, hown, hgr⟩ := hrel
      by_cases hlt : i < l.length
      · have hxl : ((mkTo mkFl 2 l k i).flatMap layF.cs).length = l.length * 2 := by rw [flat_length, mkTo_length _ _ _ _ _ hi]; rfl
        have E := flat_set2 layF rfl (a := mkFl (k + 2 * (i : Int))) rfl (mkTo mkFl 2 l k i) i
        have E2 := mkTo_set mkFl 2 l k i hlt
        generalize hxs : (mkTo mkFl 2 l k i).flatMap layF.cs = xs at *
        have s1 := grown_set1 (j := i * 2) (u := .int .i64 (k + 2 * (i : Int))) hown hgr
        have s2 := grown_set1 (j := i * 2 + 1) (u := .int .i64 (k + 2 * (i : Int) + 1)) s1.1 s1.2
        have f0 := hown.frozenAt (i * 2)
        obtain ⟨q0, hq0⟩ : ∃ z, wr.cell? ⟨g, i * 2, none⟩ = some z := ⟨_, (hown.cellAt (i * 2) (by omega)).trans (List.getElem?_eq_getElem (by (try simp) <;> omega))⟩
        have f1 := s1.1.frozenAt (i * 2 + 1)
        obtain ⟨q1, hq1⟩ : ∃ z, (wr.setCell ⟨g, i * 2, none⟩ (.int .i64 (k + 2 * (i : Int)))).cell? ⟨g, i * 2 + 1, none⟩ = some z := ⟨_, (s1.1.cellAt (i * 2 + 1) (by omega)).trans (List.getElem?_eq_getElem (by (try simp) <;> omega))⟩
        have S := hide s2
        have HE := hide (E.trans (congrArg (fun z => List.flatMap layF.cs z) E2))
        have z1 : (i : Int) < (l.length : Int) := by omega
        clear s1 s2 hown hgr hv hv0 E E2 hxl
        go_wp2
        go_roundw
        case rel =>
          refine ⟨i + 1, by omega, by go_num, by go_num, ?_, S.out.2⟩
          have h := S.out.1
          rw [← HE.out]
          exact h
        case measure => simp [intOf]; omega
      · have e : i = l.length := by omega
        subst e
        rw [mkTo_all] at hown
        have HO := hide hown
        clear hown
        go_wp2
        go_ret
        exact ⟨rfl, (by have := HO.out; unfold ownL; rw [mkL_length]; exact this), hgr⟩

set_option maxHeartbeats 2000000 in
theorem heldFlowS_any (o : Option Addr) (cap n C : Nat) (k : Int) (w : World) (hR : RdL layF C w o (mkL mkFl 2 k n)) (h0 : 0 ≤ k) (h1 : k ≤ 1073741824) (hlen : n ≤ 1048576) :
    Calls Try.prog 55 #[.slice o n cap, .int .i64 k] w fun e w' => e = .returned (.int .i64 (k + 2 * n)) ∧ w = w' := by
  go_enter Try.func55, Try.ntmps55
  go_wp2
  go_loop [1, 5] (fun q j => ∃ i : Nat, i ≤ n ∧ j = .int .i64 i ∧ q = .int .i64 (k + 2 * (i : Int)))
    (fun _ j => n - (intOf j).toNat)
  case atStart => exact ⟨0, Nat.zero_le _, rfl, by simp⟩
  case round =>
    obtain ⟨i, hi, rfl, rfl⟩ := hrel
    by_cases hlt : i < n
    · rcases hR with hR | ⟨b, off, rfl, hbl, hcell⟩
      · have := mkL_length mkFl 2 k n; rw [hR] at this; simp at this; omega
      have hc := hcell i (by rw [mkL_length]; exact hlt)
      rw [mkL_get _ _ _ _ _ _ hlt] at hc
      have c0 : w.cell? ⟨b, off + i * 2, none⟩ = some (.int .i64 (k + 2 * (i : Int))) := hc 0 (by decide)
      have c1 : w.cell? ⟨b, off + i * 2 + 1, none⟩ = some (.int .i64 (k + 2 * (i : Int) + 1)) := hc 1 (by decide)
      clear hcell hc
      go_wp2
      go_round
      case rel => exact ⟨i + 1, by omega, by go_num, by go_num⟩
      case measure => simp [intOf]; omega
    · have e : i = n := by omega
      subst e
      go_wp2
      go_ret
      exact ⟨rfl, rfl⟩

end Go.Proofs.Ytiijecnhbioehaa

/- The laws' own helpers over rows of flows. -/
namespace Go.Proofs.Ytiijecnhbioehaa
open Go.ChangeShapes Go.WideShapes Go.ChangeAt Go.RowKit Go.Joins
set_option linter.unusedVariables false
set_option linter.unusedSimpArgs false

set_option maxHeartbeats 2000000 in
theorem eqFlowS_same (o1 o2 : Option Addr) (c1 c2 : Nat) (l : List (Int × Int)) (w : World) (h1 : RdL layF w.heap.size w o1 l) (h2 : RdL layF w.heap.size w o2 l) (hl : l.length ≤ 1048576) :
    Calls Try.prog 53 #[.slice o1 l.length c1, .slice o2 l.length c2] w fun e w' => e = .returned (.bool true) ∧ Below w.heap.size w w' := by
  go_enter Try.func53, Try.ntmps53
  go_wp2
  go_loopw [5] (fun i wr => ∃ k : Nat, k ≤ l.length ∧ i = .int .i64 k ∧ Hid (Below w.heap.size w wr))
    (fun i _ => l.length - (intOf i).toNat)
  case atStart => exact ⟨0, Nat.zero_le _, rfl, Below.refl _ _⟩
  case round =>
    obtain ⟨k, hk, rfl, HB⟩ := hrel
    by_cases hlt : k < l.length
    · rcases h1 with h1 | ⟨b1, off1, rfl, hb1, r1⟩
      · subst h1; simp at hlt
      rcases h2 with h2 | ⟨b2, off2, rfl, hb2, r2⟩
      · subst h2; simp at hlt
      obtain ⟨⟨x, y⟩, hxy⟩ : ∃ s, l.getD k (0, 0) = s := ⟨_, rfl⟩
      have p0 := r1 k hlt 0 (by decide)
      have p1 := r1 k hlt 1 (by decide)
      have q0 := r2 k hlt 0 (by decide)
      have q1 := r2 k hlt 1 (by decide)
      rw [show l.getD k layF.d = (x, y) from hxy] at p0 p1 q0 q1
      have G0 : ∀ p : Grown wr, p.v.cell? ⟨b1, off1 + k * 2, none⟩ = some (.int .i64 x) := Grown.cell ((HB.out.cell (p := ⟨b1, off1 + k * 2, none⟩) hb1).trans p0) (Nat.lt_of_lt_of_le hb1 HB.out.size)
      have G1 : ∀ p : Grown wr, p.v.cell? ⟨b1, off1 + k * 2 + 1, none⟩ = some (.int .i64 y) := Grown.cell ((HB.out.cell (p := ⟨b1, off1 + k * 2 + 1, none⟩) hb1).trans p1) (Nat.lt_of_lt_of_le hb1 HB.out.size)
      have G2 : ∀ p : Grown wr, p.v.cell? ⟨b2, off2 + k * 2, none⟩ = some (.int .i64 x) := Grown.cell ((HB.out.cell (p := ⟨b2, off2 + k * 2, none⟩) hb2).trans q0) (Nat.lt_of_lt_of_le hb2 HB.out.size)
      have G3 : ∀ p : Grown wr, p.v.cell? ⟨b2, off2 + k * 2 + 1, none⟩ = some (.int .i64 y) := Grown.cell ((HB.out.cell (p := ⟨b2, off2 + k * 2 + 1, none⟩) hb2).trans q1) (Nat.lt_of_lt_of_le hb2 HB.out.size)
      have HE : Hid (∀ W, Calls Try.prog 86 #[.agg #[.int .i64 x, .int .i64 y], .agg #[.int .i64 x, .int .i64 y]] W fun e w' => e = .returned (.bool true) ∧ Below W.heap.size W w') := fun W => by have h := eqFlow_any x y x y W; rwa [decide_eq_true (⟨rfl, rfl⟩ : x = x ∧ y = y)] at h
      clear p0 p1 q0 q1 r1 r2 hxy
      have i1 : (k : Int) < (l.length : Int) := by omega
      go_wp2
      (refine wp_region_grown (by kernel_rfl) (by kernel_rfl) ?_; intro hne9; (repeat (go_big_quiet_step ((go_at_call 86; exact grown_of _ (HE.out _))))); (with_reducible refine wpQuiet_nil ?_); intro _ hw9; obtain ⟨pq, hw8⟩ := hw9; subst hw8)
      go_wp2
      go_roundw
      case rel => exact ⟨k + 1, by omega, by go_num, HB.out.trans (pq.b.mono HB.out.size)⟩
      case measure => simp [intOf]; omega
    · have e : k = l.length := by omega
      subst e
      go_wp2
      go_ret
      exact ⟨rfl, HB.out⟩

end Go.Proofs.Ytiijecnhbioehaa

