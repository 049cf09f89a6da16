/- PacketRead of the program: its contract. -/
import Derived.Test.YtoeoiljddcjphaaSRead
namespace Go.Proofs.Ytoeoiljddcjphaa
open Go.ChangeShapes Go.WideShapes Go.ChangeAt Go.RowKit Go.Joins
set_option linter.unusedVariables false
set_option linter.unusedSimpArgs false

/-- Are these bytes those of a packet? -/
def okR (L : List Int) : Bool :=
  decide (10 ≤ L.length) && packetOkB (pairLS L 0) (pairLS L 2) (L.getD 6 0) (pairLS L 4) (L.drop 10).length && decide (packetL (pairLS L 0) (pairLS L 2) (L.getD 6 0) (pairLS L 4) (L.drop 10) = L)
def rdN (L : List Int) (n : Int) : Int := if okR L = true then n else 0
def rdL (L : List Int) : List Int := if okR L = true then L.drop 10 else []
theorem okR_iff {L : List Int} : okR L = true ↔ 10 ≤ L.length ∧ packetOkB (pairLS L 0) (pairLS L 2) (L.getD 6 0) (pairLS L 4) (L.drop 10).length = true ∧ packetL (pairLS L 0) (pairLS L 2) (L.getD 6 0) (pairLS L 4) (L.drop 10) = L ∧ True := by
  simp [okR, and_assoc]
/-- What PacketRead answers. -/
def readPost (L : List Int) (w : World) (e : Ending) (w' : World) : Prop :=
  ∃ v, e = .returned (.tuple #[pkt (rdN L (pairLS L 0)) (rdN L (pairLS L 2)) (rdN L (L.getD 6 0)) (rdN L (pairLS L 4)) v, .bool (okR L)]) ∧ ownB w' w.heap.size v (rdL L) ∧ Below w.heap.size w w'
theorem readPost_no {L : List Int} {w w' : World} (h : okR L = false) (hb : Below w.heap.size w w') : readPost L w (.returned (.tuple #[pkt 0 0 0 0 (.slice none 0 0), .bool false])) w' := by
  refine ⟨.slice none 0 0, ?_, ?_, hb⟩
  · simp [rdN, h]
  · simp [rdL, h]; exact World.ownsRow_nil _ _ _ _
theorem readPost_yes {L : List Int} {w w' : World} {v : Value} (h : okR L = true) (hv : ownB w' w.heap.size v (L.drop 10)) (hb : Below w.heap.size w w') : readPost L w (.returned (.tuple #[pkt (pairLS L 0) (pairLS L 2) (L.getD 6 0) (pairLS L 4) v, .bool true])) w' := by
  refine ⟨v, ?_, ?_, hb⟩
  · simp [rdN, h]
  · simp only [rdL, h, if_true]; exact hv

theorem drop_isB {L : List Int} (h : isB L) (n : Nat) : isB (L.drop n) := fun x hx => h x (List.mem_of_mem_drop hx)
theorem packetL_isB {a b f s : Int} {l : List Int} (h : isB l) (hl : l.length ≤ 16) (ha : 0 ≤ a ∧ a < 65536) (hb : 0 ≤ b ∧ b < 65536) (hf : 0 ≤ f ∧ f < 16) (hs : 0 ≤ s ∧ s < 65536) : isB (packetL a b f s l) := by
  have hp := preL_isB h hl ha hb hf hs
  have hc : 0 ≤ checkL (preL a b f s l) ∧ checkL (preL a b f s l) ≤ 65535 := by have := sumTo_bd hp (((preL a b f s l).length + 1) / 2); unfold checkL; omega
  intro n hn
  unfold packetL at hn
  generalize checkL (preL a b f s l) = c at *
  rcases List.mem_or_eq_of_mem_set hn with h1 | h1
  · rcases List.mem_or_eq_of_mem_set h1 with h2 | h2
    · exact hp n h2
    · omega
  · omega

set_option maxHeartbeats 2000000 in
theorem implPacketRead_any (o : Option Addr) (cap : Nat) (L : List Int) (w : World) (hR : Rd w o L) (hB8 : isB L) (hlen : L.length ≤ 1048576) (hcap : L.length ≤ cap) (hcm : cap ≤ maxLen) :
    Calls Try.prog 37 #[.slice o L.length cap] w fun e w' => readPost L w e w' := by
  have hB : Below w.heap.size w w := Below.refl _ _
  have E5 := empty5_new w 26
  by_cases h10 : 10 ≤ L.length
  · have hun := hide (fun w h => unpack_any o cap L w h hB8 h10 hlen hcap hcm)
    have hyes := hide (fun w' v => readPost_yes (L := L) (w := w) (w' := w') (v := v))
    have hno := hide (fun w' => readPost_no (L := L) (w := w) (w' := w'))
    have hiff := hide (okR_iff (L := L))
    have hb10 := drop_isB hB8 10
    have hm10 : (L.drop 10).length ≤ maxLen := by simp; unfold maxLen; omega
    generalize pairLS L 0 = pa at *
    generalize pairLS L 2 = pb at *
    generalize L.getD 6 0 = pf at *
    generalize pairLS L 4 = ps at *
    generalize L.drop 10 = B at *
    go_enter Try.func37, Try.ntmps37
    go_wp2_with fail
    generalize hw0 : w.alloc (.cells #[.int .i64 0, .int .i64 0, .int .i64 0, .int .i64 0, .slice none 0 0] 26) = w0 at *
    have hk0 : w.heap.size < w0.heap.size := by rw [← hw0]; simp
    have hB0 : Below w.heap.size w w0 := by rw [← hw0]; exact (Below.refl _ _).alloc (Nat.le_refl _) _
    clear hw0
    refine (hun.out _ (hR.kept hB0)).mono ?_
    rintro e wa ⟨va, rfl, hova, hba⟩
    have hBa : Below w.heap.size w wa := hB0.trans (hba.mono (Nat.le_of_lt hk0))
    have hka : w.heap.size < wa.heap.size := Nat.lt_of_lt_of_le hk0 hba.size
    replace E5 := E5.kept hba hk0
    obtain ⟨oa, ca, hva, hRa⟩ := hova.open
    have hna : oa = none → ca = 0 := by
      intro h; subst h; rcases hova.2 with ⟨h1, _⟩ | ⟨g, c, cur, h1, _⟩
      · rw [hva] at h1; simp at h1; exact h1.2
      · rw [hva] at h1; simp at h1
    rw [hva] at hova ⊢
    have BX := boxed_new wa pa pb pf ps (.slice oa B.length ca) 26
    go_wp2_with fail
    generalize hwb : wa.alloc (.cells #[.int .i64 pa, .int .i64 pb, .int .i64 pf, .int .i64 ps, .slice oa B.length ca] 26) = wb at *
    have hbb : Below wa.heap.size wa wb := by rw [← hwb]; exact (Below.refl _ _).alloc (Nat.le_refl _) _
    have hxb : wa.heap.size < wb.heap.size := by rw [← hwb]; simp
    clear hwb
    refine (implPacketBytes_any pa pb pf ps oa ca B _ (hRa.kept hbb) hna hb10 hm10).mono ?_
    rintro e wc ⟨vc, rfl, hovc, hbc⟩
    have hBc : Below w.heap.size w wc := hBa.trans ((hbb.mono (Nat.le_of_lt hka)).trans (hbc.mono (by have := hbb.size; omega)))
    have hac : Below wa.heap.size wa wc := hbb.trans (hbc.mono (Nat.le_of_lt hxb))
    replace E5 := E5.kept hac hka
    replace BX := BX.kept hbc hxb
    have hova' : ownB wc w0.heap.size (.slice oa B.length ca) B := own_kept hova hac
    clear hun hva hRa hova
    obtain ⟨⟨d0, d1, d2, d3, d4⟩, g0, g1, g2, g3, g4⟩ := E5
    obtain ⟨y0, y1, y2, y3, y4⟩ := BX
    by_cases hpk : packetOkB pa pb pf ps B.length = true
    · obtain ⟨hl16, ha, hb, hf, hs⟩ := packetOk_bd hpk
      have hLB := packetL_isB hb10 hl16 ha hb hf hs
      rw [bytesL, if_pos hpk] at hovc
      obtain ⟨oc, cc, hvc, hRc⟩ := hovc.open
      have hek := hide (fun w h1 h2 => bytesEqual_any oc o cc cap (packetL pa pb pf ps B) L w h1 h2 hLB hB8)
      rw [hvc]
      clear hovc
      generalize hPL : packetL pa pb pf ps B = PL at *
      by_cases heq : PL = L
      · have HY : Hid (okR L = true) := hiff.out.2 ⟨h10, hpk, heq, trivial⟩
        have hd : decide (PL = L) = true := by simp [heq]
        rw [hd] at hek
        clear heq hPL
        go_wp2_with (go_at_call 69; refine (hek.out _ hRc (hR.kept hBc)).mono ?_; rintro e wd ⟨rfl, rfl⟩)
        refine bodyPost_ret (v := .tuple #[pkt pa pb pf ps (.slice oa B.length ca), .bool true]) (by simp [results, Try.results37, go_sem, d0, d1, d2, d3, d4]) rfl (hyes.out _ _ HY.out ?_ ?_)
        · refine own_mono (base := w0.heap.size) ?_ (Nat.le_of_lt hk0)
          repeat (refine ownsRow_setCell_below ?_ hk0 _)
          exact hova'
        · exact Below.setCell (Below.setCell (Below.setCell (Below.setCell (Below.setCell hBc (Nat.le_refl _) _) (Nat.le_refl _) _) (Nat.le_refl _) _) (Nat.le_refl _) _) (Nat.le_refl _) _
      · have HN : Hid (okR L = false) := by
          unfold Hid; rw [Bool.eq_false_iff]; intro h; exact heq (hiff.out.1 h).2.2.1
        have hd : decide (PL = L) = false := by simp [heq]
        rw [hd] at hek
        clear heq hPL
        go_wp2_with (go_at_call 69; refine (hek.out _ hRc (hR.kept hBc)).mono ?_; rintro e wd ⟨rfl, rfl⟩)
        refine bodyPost_ret (v := .tuple #[pkt 0 0 0 0 (.slice none 0 0), .bool false]) (by simp [results, Try.results37, go_sem, d0, d1, d2, d3, d4]) rfl (hno.out _ HN.out ?_)
        exact Below.setCell (Below.setCell (Below.setCell (Below.setCell (Below.setCell hBc (Nat.le_refl _) _) (Nat.le_refl _) _) (Nat.le_refl _) _) (Nat.le_refl _) _) (Nat.le_refl _) _
    · have HN : Hid (okR L = false) := by
        unfold Hid; rw [Bool.eq_false_iff]; intro h; exact hpk (hiff.out.1 h).2.1
      have hpk' := Bool.eq_false_iff.2 hpk
      go_wp2
      refine bodyPost_ret (v := .tuple #[pkt 0 0 0 0 (.slice none 0 0), .bool false]) (by simp [results, Try.results37, go_sem, d0, d1, d2, d3, d4]) rfl (hno.out _ HN.out ?_)
      exact Below.setCell (Below.setCell (Below.setCell (Below.setCell (Below.setCell hBc (Nat.le_refl _) _) (Nat.le_refl _) _) (Nat.le_refl _) _) (Nat.le_refl _) _) (Nat.le_refl _) _
  · have HN : Hid (okR L = false) := by
      unfold Hid; rw [Bool.eq_false_iff]; intro h; exact h10 (okR_iff.1 h).1
    go_enter Try.func37, Try.ntmps37
    go_wp2
    refine bodyPost_ret (v := .tuple #[pkt 0 0 0 0 (.slice none 0 0), .bool false]) (by simp [results, Try.results37, go_sem]) rfl (readPost_no HN.out (by (repeat (first | with_reducible exact hB | with_reducible exact Below.refl _ _ | with_reducible refine Below.drew ?_ | with_reducible refine below_drewN ?_ _ | with_reducible refine Below.alloc ?_ ?_ _ | with_reducible refine Below.setCell ?_ ?_ _ | (focus (simp; done)) | (focus (simp; omega)) | omega))))

end Go.Proofs.Ytoeoiljddcjphaa
