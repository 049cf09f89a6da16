/- For every code the law FnCandidates answers true: those of a bucket are each once, and all of the pairs are among them. No conditions. -/
import Derived.Test.YtldjaapbkihibaaGrSamePool
import Derived.Test.YtldjaapbkihibaaGrSPools
import Derived.BigQuiet
namespace Go.Proofs.Ytldjaapbkihibaa
open Go.ChangeShapes Go.WideShapes Go.ChangeAt Go.RowKit Go.Joins
set_option linter.unusedVariables false
set_option linter.unusedSimpArgs false


theorem contains_take (cl : List Int) (x : Int) (j : Nat) (h : j < cl.length) : (cl.take (j + 1)).contains x = ((cl.take j).contains x || (cl.getD j 0 == x)) := by
  have e : cl.getD j 0 = cl[j] := by simp [h]
  rw [List.take_succ_eq_append_getElem h, e, Bool.eq_iff_iff]
  simp only [List.contains_iff_mem, List.mem_append, List.mem_singleton, Bool.or_eq_true, beq_iff_eq]
  constructor
  · rintro (h1 | h1)
    · exact .inl h1
    · exact .inr h1.symm
  · rintro (h1 | h1)
    · exact .inl h1
    · exact .inr h1.symm
theorem RiI.cell {C : Nat} {w : World} {o : Option Addr} {r c : Nat} {l : List Int} (h : RiI 0 C w (.slice o r c) l) (j : Nat) (hj : j < l.length) : ∃ g off, o = some ⟨g, off, none⟩ ∧ g < C ∧ w.cell? ⟨g, off + j, none⟩ = some (.int .i64 (l.getD j 0)) := by
  obtain ⟨o1, c1, e, r⟩ := RiV.open h
  injection e with e1 _ _
  subst e1
  rcases r with r | ⟨b, off, ho, hb, r⟩
  · subst r; exact absurd hj (Nat.not_lt_zero _)
  · exact ⟨b, off, ho, hb, RdL.int r j hj⟩
theorem RiI.len {lo hi : Nat} {w : World} {v : Value} {l : List Int} (h : RiI lo hi w v l) : ∃ o c, v = .slice o l.length c := by
  obtain ⟨o, c, e, _⟩ := RiV.open h
  exact ⟨o, c, e⟩
theorem RiT.len {lo hi : Nat} {w : World} {v : Value} {ll : List (List Int)} (h : RiT lo hi w v ll) : ∃ o c, v = .slice o ll.length c := by
  obtain ⟨hs, h0, ⟨o, c, e, _⟩, _⟩ := h
  exact ⟨o, c, by rw [e, h0]⟩

set_option maxRecDepth 100000 in
set_option maxHeartbeats 16000000 in
theorem lawCands (o0 : Option Addr) (cap : Nat) (l : List Int) (w : World) (hm : l.length ≤ maxLen) (hR : Rd w o0 l) (hB8 : isB l) :
    Calls Try.prog 4 #[.slice o0 l.length cap] w fun e w' => e = .returned (.bool true) ∧ Below w.heap.size w w' := by
  have HDC := hide (drawCand_any o0 cap l w hR hB8 hm)
  clear hR hB8 hm
  go_enter Try.func4, Try.ntmps4
  go_wp2_with fail
  refine HDC.out.mono ?_
  rintro e w1 ⟨v, m, q, rfl, hin, hf, hb1⟩
  clear HDC
  have HF := hide hf
  obtain ⟨o, c, oR, cR, hve⟩ := hin.opn
  have hrd := hin.rd
  obtain ⟨key, hkey⟩ : ∃ x, m.key = x := ⟨_, rfl⟩
  obtain ⟨nb, hnb⟩ : ∃ x, m.l.length = x := ⟨_, rfl⟩
  obtain ⟨n, hn⟩ : ∃ x, m.ring.length = x := ⟨_, rfl⟩
  rw [hkey, hnb, hn] at hve
  subst hve
  have HN := hide hn
  have hb2 : Below w1.heap.size w1 (w1.alloc (.cells #[.int .i64 key, .slice o nb c, .slice oR n cR] 26)) := (Below.refl _ _).alloc (Nat.le_refl _) _
  have HRD := hide ((hrd.kept hb2 (Nat.le_refl _)).le hb2.size)
  have HB2 := hide (hb1.trans (hb2.mono hb1.size))
  have HX2 : Hid ((w1.alloc (.cells #[.int .i64 key, .slice o nb c, .slice oR n cR] 26)).heap[w1.heap.size]? = some (.cells #[.int .i64 key, .slice o nb c, .slice oR n cR] 26 (0, 0))) := World.alloc_heap_new w1 _
  have hz2 : w1.heap.size < ((w1.alloc (.cells #[.int .i64 key, .slice o nb c, .slice oR n cR] 26))).heap.size := by simp
  clear hb1 hb2 hin hrd hf hkey hnb hn
  go_wp2_with fail
  generalize (w1.alloc (.cells #[.int .i64 key, .slice o nb c, .slice oR n cR] 26)) = W2 at *
  obtain ⟨B, hB⟩ : ∃ B, w1.heap.size = B := ⟨_, rfl⟩
  simp only [hB] at HX2 hz2 ⊢
  clear hB
  refine (implCandidates_sh _ m q W2 HRD.out HF.out).mono ?_
  rintro e w3 ⟨vc, rfl, ow3, hb3⟩
  have HCM := hide (show candM m q = if (poolB m && decide (0 ≤ q) && decide (q < 8)) = true then candL m.ring q.toNat else [] from rfl)
  have HCF := hide (fun (h : poolB m = true) (h0 : 0 ≤ q) (h8 : q < 8) => cand_facts h h0 h8)
  have HPF := hide (fun (h : poolB m = true) (h0 : 0 ≤ q) (h8 : q < 8) i (hi : i < m.ring.length) => (And.intro (pair_row ((pool_facts h).2.2.2.2 i hi)).1 (pair_len ((pair_row ((pool_facts h).2.2.2.2 i hi)).2 q.toNat (by omega)))))
  obtain ⟨cl, hcl⟩ : ∃ x, candM m q = x := ⟨_, rfl⟩
  rw [hcl] at ow3 HCM HCF
  obtain ⟨oc, cc, hve, _⟩ := ownL.open (L := layI) ow3
  subst hve
  obtain ⟨nl, hnl⟩ : ∃ x, cl.length = x := ⟨_, rfl⟩
  rw [hnl] at ow3 ⊢
  have HNL := hide hnl
  have HOW := hide ow3
  have hx3 := (hb3.block _ hz2).trans HX2.out
  have z0 : w3.cell? ⟨B, 0, none⟩ = some (.int .i64 key) := bx_cell hx3 0 _ rfl
  have z1 : w3.cell? ⟨B, 1, none⟩ = some (.slice o nb c) := bx_cell hx3 1 _ rfl
  have z2 : w3.cell? ⟨B, 2, none⟩ = some (.slice oR n cR) := bx_cell hx3 2 _ rfl
  have HX3 := hide hx3
  have HB3 := hide (HB2.out.trans (hb3.mono HB2.out.size))
  have HRD3 := hide ((HRD.out.kept hb3 (Nat.le_refl _)).le hb3.size)
  have hz3 : B < w3.heap.size := Nat.lt_of_lt_of_le hz2 hb3.size
  clear hcl hnl ow3 hb3 hx3 HX2 HB2 HRD hz2
  go_wp2_with fail
  refine (specPoolOk_sh _ m w3 HRD3.out HF.out).mono ?_
  rintro e w5 ⟨rfl, hb5⟩
  have HX5 := hide ((hb5.block _ hz3).trans HX3.out)
  have HB5 := hide (HB3.out.trans (hb5.mono HB3.out.size))
  have HRD5 := hide ((HRD3.out.kept hb5 (Nat.le_refl _)).le hb5.size)
  have HOW5 := hide (own_kept HOW.out hb5)
  have hz5 : B < w5.heap.size := Nat.lt_of_lt_of_le hz3 hb5.size
  clear hb5 HX3 HB3 HRD3 HOW hz3 z0 z1 z2
  have HPL := hide (pools_any w5)
  by_cases hgood : poolB m = true ∧ 0 ≤ q ∧ q < 8
  · obtain ⟨hp, h0, h8⟩ := hgood
    obtain ⟨hc1, hc2, hc6⟩ := HCF.out hp h0 h8
    have hn3 : n ≤ 3 := by rw [← HN.out]; exact (pool_facts hp).2.2.2.1
    have HPI := hide (HPF.out hp h0 h8)
    obtain ⟨qn, rfl⟩ : ∃ k : Nat, q = (k : Int) := ⟨q.toNat, by omega⟩
    rw [Int.toNat_natCast] at hc2 HPI
    have HC1 := hide hc1
    have HC2 := hide hc2
    rw [HNL.out] at hc6
    have hq8 : qn < 8 := by omega
    have hqi : (qn : Int) < 8 := by omega
    rw [hp]
    clear hc1 hc2 hp h0 h8 HCM HCF HPF HPL
    obtain ⟨vb, vr, hve, _, hrr⟩ := HRD5.out
    simp only [Value.agg.injEq, Array.mk.injEq, List.cons.injEq, and_true] at hve
    obtain ⟨_, _, hve⟩ := hve
    subst hve
    have HG := hide hrr
    clear hrr
    go_wp2
    go_loopw [2, 6] (fun rv iv wr => ∃ i : Nat, i ≤ nl ∧ iv = .int .i64 (i : Int) ∧ rv = .bool false ∧ Hid (Below w5.heap.size w5 wr))
      (fun _ iv _ => nl - (intOf iv).toNat)
    case atStart => exact ⟨0, Nat.zero_le _, rfl, rfl, Below.refl _ _⟩
    case round =>
      rename World => wr
      obtain ⟨i, hi', rfl, rfl, HBr⟩ := hrel
      by_cases hlt : i < nl
      · have hlt' : (i : Int) < (nl : Int) := by omega
        go_wp2
        go_loopw [2, 7] (fun rv kv wq => ∃ k : Nat, k ≤ i ∧ kv = .int .i64 (k : Int) ∧ rv = .bool false ∧ Hid (Below w5.heap.size w5 wq))
          (fun _ kv _ => i - (intOf kv).toNat)
        case atStart => exact ⟨0, Nat.zero_le _, rfl, rfl, HBr.out⟩
        case round =>
          rename World => wq
          obtain ⟨k, hk', rfl, rfl, HBq⟩ := hrel
          by_cases hlk : k < i
          · have hlk' : (k : Int) < (i : Int) := by omega
            have hkl' : (k : Int) < (nl : Int) := by omega
            obtain ⟨g, off, e9, hg, hgi⟩ := RiI.cell (RiV.mono (InRow.ri (L := layI) (InRow.of HOW5.out)) (Nat.zero_le _) (Nat.le_refl _)) i (by rw [HNL.out]; exact hlt)
            obtain ⟨g', off', e9', hg', hgk⟩ := RiI.cell (RiV.mono (InRow.ri (L := layI) (InRow.of HOW5.out)) (Nat.zero_le _) (Nat.le_refl _)) k (by rw [HNL.out]; omega)
            rw [e9] at e9'
            injection e9' with e9'
            injection e9' with e91 e92 _
            subst e91 e92
            subst e9
            have hne := HC1.out i k (by rw [HNL.out]; exact hlt) hlk
            have G0 := Grown.cell (bC HBq.out hgi hg) (Nat.lt_of_lt_of_le hg HBq.out.size)
            have G1 := Grown.cell (bC HBq.out hgk hg) (Nat.lt_of_lt_of_le hg HBq.out.size)
            clear hgi hgk
            generalize cl.getD i 0 = x at *
            generalize cl.getD k 0 = y at *
            have hne' : ¬ (x = y) := hne
            clear hne
            go_wp2
            (refine wp_region_grown (by kernel_rfl) (by kernel_rfl) ?_; intro hne9; (repeat (go_big_quiet_step (fail))); (with_reducible refine wpQuiet_nil ?_); intro _ hw9; obtain ⟨pq, hw8⟩ := hw9; subst hw8)
            have HB9 := hide (HBq.out.trans (pq.b.mono HBq.out.size))
            go_wp2
            go_roundw
            case rel => exact ⟨k + 1, by omega, by go_num, rfl, HB9.out⟩
            case measure => simp [intOf]; omega
          · have e : k = i := by omega
            subst e
            go_wp2
            go_roundw
            case rel => exact ⟨k + 1, by omega, by go_num, rfl, HBq.out⟩
            case measure => simp [intOf]; omega
      · have e : i = nl := by omega
        subst e
        go_wp2
        go_loopw [2, 8] (fun rv iv wr => ∃ j : Nat, j ≤ n ∧ iv = .int .i64 (j : Int) ∧ rv = .bool false ∧ Hid (Below w5.heap.size w5 wr))
          (fun _ iv _ => n - (intOf iv).toNat)
        case atStart => exact ⟨0, Nat.zero_le _, rfl, rfl, HBr.out⟩
        case round =>
          rename World => wo
          obtain ⟨a, ha', rfl, rfl, HBo⟩ := hrel
          have z2 : wo.cell? ⟨B, 2, none⟩ = some (.slice oR n cR) := bx_cell ((HBo.out.block _ hz5).trans HX5.out) 2 _ rfl
          by_cases hla : a < n
          · have hla' : (a : Int) < (n : Int) := by omega
            obtain ⟨b1, off1, u1, rfl, hb1, hcu1, hru1⟩ := RiRows.at HG.out (Nat.le_refl _) a (by rw [HN.out]; exact hla)
            obtain ⟨o3, c3, rfl⟩ := RiT.len hru1
            rw [(HPI.out a (by rw [HN.out]; exact hla)).1] at hcu1 hru1
            obtain ⟨b2, off2, u2, rfl, hb2, hcu2, hru2⟩ := RiRows.at hru1 (Nat.le_refl _) qn (by rw [(HPI.out a (by rw [HN.out]; exact hla)).1]; exact hq8)
            obtain ⟨o4, c4, rfl⟩ := RiI.len hru2
            have HCT := hide (HC2.out a)
            have HRW := hide hru2
            obtain ⟨row, hrow⟩ : ∃ x, (m.ring.getD a []).getD qn [] = x := ⟨_, rfl⟩
            rw [hrow] at hcu2 HCT HRW
            obtain ⟨r, hr⟩ : ∃ x, row.length = x := ⟨_, rfl⟩
            rw [hr] at hcu2 HRW
            have HRL := hide hr
            have HCT2 := hide (fun k => HCT.out k (by rw [HN.out]; exact hla))
            have hr2 : r ≤ 2 := by rw [← hr, ← hrow]; exact (HPI.out a (by rw [HN.out]; exact hla)).2
            clear hrow hr hru1 hru2 HCT
            have y1 := bC HBo.out hcu1 hb1
            have y2 := bC HBo.out hcu2 hb2
            go_wp2
            go_loopw [2, 9] (fun rv kv wq => ∃ k : Nat, k ≤ r ∧ kv = .int .i64 (k : Int) ∧ rv = .bool false ∧ Hid (Below w5.heap.size w5 wq))
              (fun _ kv _ => r - (intOf kv).toNat)
            case atStart => exact ⟨0, Nat.zero_le _, rfl, rfl, HBo.out⟩
            case round =>
              rename World => wq
              obtain ⟨k, hk', rfl, rfl, HBq⟩ := hrel
              have x2 : wq.cell? ⟨B, 2, none⟩ = some (.slice (some ⟨b1, off1, none⟩) n cR) := bx_cell ((HBq.out.block _ hz5).trans HX5.out) 2 _ rfl
              have x3 := bC HBq.out hcu1 hb1
              have x4 := bC HBq.out hcu2 hb2
              by_cases hlk : k < r
              · have hlk' : (k : Int) < (r : Int) := by omega
                obtain ⟨g4, off4, rfl, hg4, hcu4⟩ := RiI.cell HRW.out k (by rw [HRL.out]; exact hlk)
                have hct := HCT2.out k (by rw [HRL.out]; exact hlk)
                have HCX := hide hct
                obtain ⟨x, hx⟩ : ∃ x, row.getD k 0 = x := ⟨_, rfl⟩
                rw [hx] at hcu4 HCX
                clear hct hx
                go_wp2
                go_loopw [10, 11] (fun fv jv ws => ∃ j : Nat, j ≤ i ∧ jv = .int .i64 (j : Int) ∧ fv = .bool ((cl.take j).contains x) ∧ Hid (Below w5.heap.size w5 ws))
                  (fun _ jv _ => i - (intOf jv).toNat)
                case atStart => exact ⟨0, Nat.zero_le _, rfl, by simp, HBq.out⟩
                case round =>
                  rename World => ws
                  obtain ⟨j, hj', rfl, rfl, HBs⟩ := hrel
                  by_cases hlj : j < i
                  · have hlj' : (j : Int) < (i : Int) := by omega
                    have HTK := hide (contains_take cl x j (by rw [HNL.out]; exact hlj))
                    obtain ⟨g, off, e9, hg, hgi⟩ := RiI.cell (RiV.mono (InRow.ri (L := layI) (InRow.of HOW5.out)) (Nat.zero_le _) (Nat.le_refl _)) j (by rw [HNL.out]; exact hlj)
                    subst e9
                    have G0 := Grown.cell (bC HBs.out hgi hg) (Nat.lt_of_lt_of_le hg HBs.out.size)
                    have G1 := Grown.cell (bC HBs.out hcu4 hg4) (Nat.lt_of_lt_of_le hg4 HBs.out.size)
                    have G2 := Grown.cell (bC HBs.out hcu1 hb1) (Nat.lt_of_lt_of_le hb1 HBs.out.size)
                    have G3 := Grown.cell (bC HBs.out hcu2 hb2) (Nat.lt_of_lt_of_le hb2 HBs.out.size)
                    have G4 := Grown.cell (show ws.cell? ⟨B, 2, none⟩ = some (.slice (some ⟨b1, off1, none⟩) n cR) from bx_cell ((HBs.out.block _ hz5).trans HX5.out) 2 _ rfl) (Nat.lt_of_lt_of_le hz5 HBs.out.size)
                    clear hgi x2 x3 x4 y1 y2 z2
                    generalize cl.getD j 0 = y at *
                    cases hfd : (cl.take j).contains x with
                    | true =>
                      rw [hfd] at HTK
                      clear hfd
                      go_wp2
                      (refine wp_region_grown (by kernel_rfl) (by kernel_rfl) ?_; intro hne9; (repeat (go_big_quiet_step (fail))); (with_reducible refine wpQuiet_nil ?_); intro _ hw9; obtain ⟨pq, hw8⟩ := hw9; subst hw8)
                      have HB9 := hide (HBs.out.trans (pq.b.mono HBs.out.size))
                      go_wp2
                      go_roundw
                      case rel => exact ⟨j + 1, by omega, by go_num, by rw [HTK.out]; rfl, HB9.out⟩
                      case measure => simp [intOf]; omega
                    | false =>
                      rw [hfd] at HTK
                      clear hfd
                      go_wp2
                      (refine wp_region_grown (by kernel_rfl) (by kernel_rfl) ?_; intro hne9; (repeat (go_big_quiet_step (fail))); (with_reducible refine wpQuiet_nil ?_); intro _ hw9; obtain ⟨pq, hw8⟩ := hw9; subst hw8)
                      have HB9 := hide (HBs.out.trans (pq.b.mono HBs.out.size))
                      go_wp2
                      go_roundw
                      case rel => exact ⟨j + 1, by omega, by go_num, by rw [HTK.out]; simp, HB9.out⟩
                      case measure => simp [intOf]; omega
                  · have e : j = i := by omega
                    subst e
                    rw [show cl.take j = cl by rw [← HNL.out, List.take_length], HCX.out]
                    clear x2 x3 x4 y1 y2 z2
                    go_wp2
                    go_roundw
                    case rel => exact ⟨k + 1, by omega, by go_num, rfl, HBs.out⟩
                    case measure => simp [intOf]; omega
              · have e : k = r := by omega
                subst e
                go_wp2
                go_roundw
                case rel => exact ⟨a + 1, by omega, by go_num, rfl, HBq.out⟩
                case measure => simp [intOf]; omega
          · have e : a = n := by omega
            subst e
            have HPL := hide (pools_any wo)
            have HB7 := hide (HB5.out.trans (HBo.out.mono HB5.out.size))
            have hi6 : (i : Int) ≤ 6 := by omega
            go_wp2_with fail
            refine HPL.out.mono ?_
            rintro e w8 ⟨rfl, hb8⟩
            have HB8 := hide (HB7.out.trans (hb8.mono HB7.out.size))
            clear hb8
            go_wp2
            go_ret
            exact ⟨rfl, HB8.out⟩
  · have hnil : cl = [] := by
      rw [HCM.out, if_neg]
      intro h
      simp only [Bool.and_eq_true, decide_eq_true_eq] at h
      exact hgood ⟨h.1.1, h.1.2, h.2⟩
    have hnl0 : nl = 0 := by rw [← HNL.out, hnil]; rfl
    subst hnl0
    clear hnil HCM HCF HPF
    cases hp : poolB m with
    | false =>
      clear hgood hp
      go_wp2_with fail
      refine HPL.out.mono ?_
      rintro e w6 ⟨rfl, hb6⟩
      have HB6 := hide (HB5.out.trans (hb6.mono HB5.out.size))
      clear hb6
      go_wp2
      go_ret
      exact ⟨rfl, HB6.out⟩
    | true =>
      by_cases h0 : q < 0
      · clear hgood hp
        go_wp2_with fail
        refine HPL.out.mono ?_
        rintro e w6 ⟨rfl, hb6⟩
        have HB6 := hide (HB5.out.trans (hb6.mono HB5.out.size))
        clear hb6
        go_wp2
        go_ret
        exact ⟨rfl, HB6.out⟩
      · have h8 : 8 ≤ q := by
          have h : ¬ (0 ≤ q ∧ q < 8) := fun h => hgood ⟨hp, h.1, h.2⟩
          omega
        clear hgood hp
        go_wp2_with fail
        refine HPL.out.mono ?_
        rintro e w6 ⟨rfl, hb6⟩
        have HB6 := hide (HB5.out.trans (hb6.mono HB5.out.size))
        clear hb6
        go_wp2
        go_ret
        exact ⟨rfl, HB6.out⟩

set_option maxRecDepth 100000 in
theorem fnCandidates_lifted (os : Os) (started : os.Started) (H : Type) (enc : TypeId × Value → H) :
    ReturnsInHanded {} Try.checked os 4 .any (Rows.fnCandidatesSpec.pre6 enc Try.prog Try.f4 Rows.fnCandidatesRow.domain false) (Rows.fnCandidatesSpec.post enc Try.prog Try.f4 false true false false) := by
  refine returnsInHanded_of_change (C := Try.checked) own started (by kernel_rfl) Try.func4
    (ChangeSpec.witness6 (enc := enc) (C := Try.checked) false ⟨#[], #[.slice none 0 0], []⟩ 8 (by kernel_rfl) (by kernel_rfl) (by kernel_rfl) (by kernel_rfl)) ?_
  intro W base args ds gs before hval0 hW hcnd _
  have hval : ∀ (j : Nat) t v, Try.f4.params[j]? = some t → args[j]? = some v → Value.okWide Try.prog W .any base t v := hval0
  have hW' := hW
  obtain ⟨p, q, hA0, hV, rfl, hfz, hnd⟩ := hW
  have hA : DataW.TrodAll enc Try.prog W 0 (fun _ => true) true Try.f4.params.toList args.toList ds p := hA0
  rw [Try.params4] at hA hval
  obtain ⟨v0, vs0, d0, ds0, p0, q0, hargs, rfl, rfl, h0, r0⟩ := trodAll_cons hA
  obtain ⟨rfl, rfl, rfl⟩ := trodAll_nil r0
  obtain rfl : args = #[v0] := by cases args; simp_all
  obtain ⟨rfl, rfl⟩ := trodVars_none hV
  have k0 := h0
  have lt0 : ∀ x ∈ p0, x.block < W.heap.size := by obtain ⟨m, hm⟩ := k0; exact DataW.trod_lt m _ _ _ hm
  obtain ⟨o0, cap0, l0, rfl, hm0, hR0, hB80⟩ := open_bytes (hval 0 22 v0 rfl rfl) h0
  clear hA0 hval0
  refine (lawCands o0 cap0 l0 W hm0 hR0 hB80 ).mono fun e W' ⟨he, bel⟩ => ?_
  subst he
  exact ⟨_, rfl, _, _, _, [], _, [], hW', trodAll_mk1 (shut_bool Try.underlying4 _), (trodAll_cons_mk (Below.trod laidOut (by kernel_rfl) (of_decide_eq_true (by kernel_rfl)) k0 bel lt0) trodAll_mk0), rfl, bel.frame _, fun h => by cases h⟩

theorem fnCandidates_over : Rows.fnCandidatesRow.holds Try.pinned (OpenSpec.ofChange Rows.fnCandidatesSpec) :=
  OpenClaim.holds_of_wide 4 Try.f4 rfl rfl rfl rfl rfl rfl rfl ⟨rfl, rfl, rfl, rfl, rfl⟩ rfl rfl rfl rfl rfl (by kernel_rfl) Try.func4 (by kernel_rfl)
    (of_decide_eq_true (by kernel_rfl)) (by unfold Func.isWrapper; first | (rw [if_pos (by decide +kernel)]; kernel_rfl) | (rw [if_neg (by decide +kernel)]; exact ⟨rfl, rfl⟩))
    (fun os started H enc _ => fnCandidates_lifted os started H enc)

theorem fnCandidates_holds : Rows.FnCandidatesSaid := fnCandidates_over


end Go.Proofs.Ytldjaapbkihibaa
