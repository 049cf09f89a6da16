/- What is dropped of a table that may be leaves one. -/
import Derived.Test.YthcbhfgbplgfiaaWayMath
namespace Go.Proofs.Ythcbhfgbplgfiaa
open Go.ChangeShapes Go.WideShapes Go.ChangeAt Go.RowKit Go.Joins
set_option linter.unusedVariables false
set_option linter.unusedSimpArgs false

/-- The hole is at i; the c slots behind it were looked at, and stay. -/
structure WInv (m : List Sl) (i c : Nat) : Prop where
  gl : Gapless m i
  lt : c < m.length
  seen : ∀ j, j < m.length → (at' m j).u = true → farN m.length i j ≤ c → ¬ farN m.length (hm m j) i < farN m.length (hm m j) j

theorem at_set_self {m : List Sl} {i : Nat} (s : Sl) (h : i < m.length) : at' (m.set i s) i = s := getD_set_self m i s h
theorem at_set_ne {m : List Sl} {i j : Nat} (s : Sl) (h : i ≠ j) : at' (m.set i s) j = at' m j := getD_set_ne m i j s h
theorem hm_set_ne {m : List Sl} {i j : Nat} (s : Sl) (h : i ≠ j) : hm (m.set i s) j = hm m j := by unfold hm; rw [at_set_ne s h, List.length_set]
theorem hm_lt {m : List Sl} (hn : 0 < m.length) (j : Nat) : hm m j < m.length := homeN_lt hn _ _

theorem WInv.start {l : List Sl} {i : Nat} (h : tableOkB l = true) (hi : i < l.length) : WInv (l.set i sl0) i 0 := by
  have hg := gapless_of h i
  obtain ⟨h1, _, _⟩ := tableOkB_iff.1 h
  have hne : ∀ j, (at' (l.set i sl0) j).u = true → i ≠ j := fun j hu e => by rw [← e, at_set_self _ hi] at hu; cases hu
  refine ⟨⟨?_, ?_, ?_⟩, (by rw [List.length_set]; omega), ?_⟩
  · intro j hj
    rw [List.length_set] at hj
    by_cases e : i = j
    · subst e; rw [getD_set_self _ _ _ hi]; rfl
    · rw [getD_set_ne _ _ _ _ e]; exact hg.slots j hj
  · intro x y hx hy hux huy ha hp
    have ex := hne x hux
    have ey := hne y huy
    rw [List.length_set] at hx hy
    rw [at_set_ne _ ex] at hux ha hp
    rw [at_set_ne _ ey] at huy ha hp
    exact hg.dist x y hx hy hux huy ha hp
  · intro j x hj hx hu hd
    have ej := hne j hu
    rw [List.length_set] at hj hx hd
    rw [hm_set_ne _ ej] at hd
    rw [at_set_ne _ ej] at hu
    by_cases e : i = x
    · exact .inr e.symm
    · left
      rw [at_set_ne _ e]
      rcases hg.gap j x hj hx hu hd with hq | hq
      · exact hq
      · exact absurd hq.symm e
  · intro j hj hu hd
    have ej := hne j hu
    rw [List.length_set] at hj hd
    have := far_pos hi hj ej
    omega

theorem WInv.stay {m : List Sl} {i c k : Nat} (h : WInv m i c) (hi : i < m.length) (hk : k = (i + 1 + c) % m.length) (hu : (at' m k).u = true) (hfree : (at' m i).u = false) (hmv : ¬ farN m.length i k ≤ farN m.length (hm m k) k) : WInv m i (c + 1) := by
  have hn : 0 < m.length := by omega
  have hkl : k < m.length := by rw [hk]; exact Nat.mod_lt _ hn
  have hne : i ≠ k := fun e => by rw [e, hu] at hfree; cases hfree
  have hc1 : c + 1 < m.length := by
    rcases Nat.lt_or_ge (c + 1) m.length with h1 | h1
    · exact h1
    · exfalso
      have := h.lt
      have e : i + 1 + c = i + m.length := by omega
      rw [e, Nat.add_mod_right, mod_small hi] at hk
      exact hne hk.symm
  have hfk : farN m.length i k = c + 1 := by rw [hk, Nat.add_assoc, Nat.add_comm 1 c]; exact far_of_add hi hc1
  refine ⟨h.gl, hc1, fun j hj huj hd => ?_⟩
  rcases Nat.lt_or_ge c (farN m.length i j) with h1 | h1
  · have e : j = k := far_inj hi hj hkl (by omega)
    subst e
    intro hq
    exact hmv ((far_on (hm_lt hn j) hi hkl hne).1 hq)
  · exact h.seen j hj huj h1

theorem WInv.move {m : List Sl} {i c k : Nat} (h : WInv m i c) (hi : i < m.length) (hkl : k < m.length) (hu : (at' m k).u = true) (hfree : (at' m i).u = false) (hmv : farN m.length i k ≤ farN m.length (hm m k) k) : WInv ((m.set i (at' m k)).set k sl0) k 0 := by
  have hn : 0 < m.length := by omega
  have hne : i ≠ k := fun e => by rw [e, hu] at hfree; cases hfree
  have hlen : ((m.set i (at' m k)).set k sl0).length = m.length := by simp
  have hon := (far_on (hm_lt hn k) hi hkl hne).2 hmv
  have ai : at' ((m.set i (at' m k)).set k sl0) i = at' m k := by rw [at_set_ne _ (fun e => hne e.symm), at_set_self _ hi]
  have ak : at' ((m.set i (at' m k)).set k sl0) k = sl0 := at_set_self _ (by simpa using hkl)
  have ao : ∀ x, x ≠ i → x ≠ k → at' ((m.set i (at' m k)).set k sl0) x = at' m x := fun x h1 h2 => by rw [at_set_ne _ (fun e => h2 e.symm), at_set_ne _ (fun e => h1 e.symm)]
  have hmi : hm ((m.set i (at' m k)).set k sl0) i = hm m k := by unfold hm; rw [ai, hlen]
  have hmo : ∀ x, x ≠ i → x ≠ k → hm ((m.set i (at' m k)).set k sl0) x = hm m x := fun x h1 h2 => by unfold hm; rw [ao x h1 h2, hlen]
  have hnk : ∀ x, (at' ((m.set i (at' m k)).set k sl0) x).u = true → x ≠ k := fun x hq e => by rw [e, ak] at hq; cases hq
  refine ⟨⟨?_, ?_, ?_⟩, by rw [hlen]; exact hn, ?_⟩
  · intro j hj
    rw [hlen] at hj
    by_cases e1 : j = k
    · subst e1; show slotB (at' _ j) = true; rw [ak]; rfl
    · by_cases e2 : j = i
      · subst e2; show slotB (at' _ j) = true; rw [ai]; exact h.gl.slots k hkl
      · show slotB (at' _ j) = true; rw [ao j e2 e1]; exact h.gl.slots j hj
  · intro x y hx hy hux huy ha hp
    have ex := hnk x hux
    have ey := hnk y huy
    rw [hlen] at hx hy
    by_cases e1 : x = i
    · by_cases e2 : y = i
      · rw [e1, e2]
      · rw [e1, ai] at ha hp
        rw [ao y e2 ey] at huy ha hp
        exact absurd (h.gl.dist k y hkl hy hu huy ha hp).symm ey
    · by_cases e2 : y = i
      · rw [e2, ai] at ha hp
        rw [ao x e1 ex] at hux ha hp
        exact absurd (h.gl.dist x k hx hkl hux hu ha hp) ex
      · rw [ao x e1 ex] at hux ha hp
        rw [ao y e2 ey] at huy ha hp
        exact h.gl.dist x y hx hy hux huy ha hp
  · intro j x hj hx huj hd
    have ej := hnk j huj
    rw [hlen] at hj hx hd
    by_cases e1 : x = k
    · exact .inr e1
    · left
      by_cases e2 : x = i
      · rw [e2, ai]; exact hu
      · rw [ao x e2 e1]
        by_cases e3 : j = i
        · rw [e3, hmi] at hd
          rcases h.gl.gap k x hkl hx hu (by omega) with hq | hq
          · exact hq
          · exact absurd hq e2
        · rw [hmo j e3 ej] at hd
          rw [ao j e3 ej] at huj
          rcases h.gl.gap j x hj hx huj hd with hq | hq
          · exact hq
          · exact absurd hq e2
  · intro j hj huj hd
    rw [hlen] at hj hd
    have := far_pos hkl hj (fun e => hnk j huj e.symm)
    omega

theorem WInv.done {m : List Sl} {i c k : Nat} (h : WInv m i c) (h16 : m.length ≤ 16) (hi : i < m.length) (hk : k = (i + 1 + c) % m.length) (hfree : (at' m k).u = false) : tableOkB m = true := by
  have hn : 0 < m.length := by omega
  have hkl : k < m.length := by rw [hk]; exact Nat.mod_lt _ hn
  refine ok_of_gapless (by omega) h16 h.gl.slots h.gl.dist ?_
  intro j x hj hx hu hd
  rcases h.gl.gap j x hj hx hu hd with hq | hq
  · exact hq
  · exfalso
    subst hq
    have hs : c < farN m.length x j := Nat.lt_of_not_le fun hle => h.seen j hj hu hle hd
    have hlt := far_lt hi hj
    have hfk : farN m.length x k = c + 1 := by rw [hk, Nat.add_assoc, Nat.add_comm 1 c]; exact far_of_add hi (by omega)
    have hjk : j ≠ k := fun e => by rw [e, hfree] at hu; cases hu
    have hlt2 : farN m.length x k < farN m.length x j := by
      rcases Nat.lt_or_ge (c + 1) (farN m.length x j) with h1 | h1
      · omega
      · exact absurd (far_inj hi hj hkl (by omega)) hjk
    have e1 := far_add (hm_lt hn j) hi hj hd
    have hxk : x ≠ k := fun e => by rw [e, far_self hkl] at hfk; omega
    have hk2 : farN m.length (hm m j) k < farN m.length (hm m j) j := by
      have := hm_lt hn j
      have a1 := farN_eq this hkl
      have a2 := farN_eq this hi
      have a3 := farN_eq this hj
      have a4 := farN_eq hi hkl
      have a5 := farN_eq hi hj
      (repeat' split at a1) <;> (repeat' split at a2) <;> (repeat' split at a3) <;> (repeat' split at a4) <;> (repeat' split at a5) <;> omega
    rcases h.gl.gap j k hj hkl hu hk2 with h1 | h1
    · rw [h1] at hfree; cases hfree
    · exact hxk h1.symm

theorem drop_keeps {n : Nat} {R : List Sl} : ∀ (g : Nat) (m : List Sl) (i c k : Nat), k = (i + 1 + c) % n → DropInv n R g m i k → WInv m i c → tableOkB R = true
  | g, m, i, c, k, hk, hD, hW => by
    have hlen := hD.len
    have hi := hD.hi
    have hkl := hD.hk
    have hf := hD.free
    cases hu : (m.getD k sl0).u with
    | false =>
      rw [← hD.done hu]
      exact hW.done (by have := hD.le; omega) (by omega) (by rw [hlen]; exact hk) hu
    | true =>
      cases hm' : moves n m i k with
      | true =>
        obtain ⟨hg, hN⟩ := hD.move hu hm'
        obtain ⟨g', rfl⟩ : ∃ g', g = g' + 1 := ⟨g - 1, by omega⟩
        have hmv := moves_iff.1 hm'
        exact drop_keeps g' _ k 0 _ (by rw [Nat.add_zero]) hN (hW.move (by omega) (by omega) hu hf (by rw [hlen]; unfold hm; rw [hlen]; exact hmv))
      | false =>
        obtain ⟨hg, hN⟩ := hD.stay hu hm'
        obtain ⟨g', rfl⟩ : ∃ g', g = g' + 1 := ⟨g - 1, by omega⟩
        have hmv : ¬ farN n i k ≤ farN n (homeN n (m.getD k sl0).a (m.getD k sl0).p) k := fun hq => by rw [moves_iff.2 hq] at hm'; cases hm'
        refine drop_keeps g' m i (c + 1) _ ?_ hN (hW.stay (by omega) (by rw [hlen]; exact hk) hu hf (by rw [hlen]; unfold hm; rw [hlen]; exact hmv))
        rw [hk, Nat.mod_add_mod]; congr 1
/-- What is dropped of a table that may be leaves one. -/
theorem dropAtL_ok {l : List Sl} {i : Nat} (h : tableOkB l = true) (hi : i < l.length) : tableOkB (dropAtL l i) = true := by
  obtain ⟨h1, h2, _⟩ := tableOkB_iff.1 h
  exact drop_keeps _ _ i 0 _ (by rw [Nat.add_zero]) (DropInv.start h2 hi (flowsOk_of h)) (WInv.start h hi)

end Go.Proofs.Ythcbhfgbplgfiaa
