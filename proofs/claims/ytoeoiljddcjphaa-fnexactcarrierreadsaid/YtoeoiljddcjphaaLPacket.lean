/- Contracts of the laws' own helpers over packets: one that came in, its size, its copy, its comparison. -/
import Derived.Test.YtoeoiljddcjphaaLFlow
import Derived.Test.YtoeoiljddcjphaaLBytes
import Derived.Test.YtoeoiljddcjphaaSPacket
namespace Go.Proofs.Ytoeoiljddcjphaa
open Go.ChangeShapes Go.WideShapes Go.ChangeAt Go.RowKit Go.Joins
set_option linter.unusedVariables false
set_option linter.unusedSimpArgs false

theorem array5 {α : Type} {cs : Array α} (h : cs.size = 5) : ∃ c0 c1 c2 c3 c4, cs = #[c0, c1, c2, c3, c4] := by
  obtain ⟨l⟩ := cs
  match l, h with
  | [c0, c1, c2, c3, c4], _ => exact ⟨c0, c1, c2, c3, c4, rfl⟩
theorem cellsLawsPacket : Try.prog.cellsOf 52 = 5 := by kernel_rfl
theorem cellsInt : Try.prog.cellsOf 3 = 1 := by kernel_rfl
theorem cellsBytes : Try.prog.cellsOf 22 = 1 := by kernel_rfl

/-- A packet's five cells. -/
theorem open_packet_cells {H : Type} {enc : TypeId × Value → H} {W : World} {fuel : Nat} {c0 c1 c2 c3 c4 : Value} {x : DataW H × List MemPlace}
    (h : DataW.trod enc Try.prog W 0 (fun _ => true) true fuel 52 [c0, c1, c2, c3, c4] = some x) :
    ∃ (a b f s : Int) (o : Option Addr) (cap : Nat) (l : List Int), [c0, c1, c2, c3, c4] = [.int .i64 a, .int .i64 b, .int .i64 f, .int .i64 s, .slice o l.length cap] ∧ l.length ≤ maxLen ∧ Rd W o l ∧ isB l := by
  obtain ⟨y0, y1, y2, y3, n, _, _, h0, h1, h2, h3⟩ := trod_struct4 Try.underlying52 h
  simp [cellsInt, cellsBytes, cellsLawsFlow] at h0 h1 h2 h3
  obtain ⟨z0, z1, n', _, _, g0, g1⟩ := trod_struct2 Try.underlying50 h0
  simp [cellsInt] at g0 g1
  obtain ⟨a, e0, _, _⟩ := DataW.trod_int Try.underlying3 g0
  obtain ⟨b, e1, _, _⟩ := DataW.trod_int Try.underlying3 g1
  obtain ⟨f, e2, _, _⟩ := DataW.trod_int Try.underlying3 h1
  obtain ⟨s, e3, _, _⟩ := DataW.trod_int Try.underlying3 h2
  obtain ⟨o, cap, l, e4, r⟩ := open_bytes_cells h3
  simp at e0 e1 e2 e3 e4
  subst e0 e1 e2 e3 e4
  exact ⟨a, b, f, s, o, cap, l, rfl, r⟩

set_option maxRecDepth 100000 in
theorem open_packet {H : Type} {enc : TypeId × Value → H} {W : World} {base : Nat} {v : Value} {d : DataW H} {p : List MemPlace}
    (hv : Value.okWide Try.prog W .any base 52 v) (h : DataW.Trod enc Try.prog W 0 (fun _ => true) true 52 v d p) :
    ∃ (a b f s : Int) (o : Option Addr) (cap : Nat) (l : List Int), v = pkt a b f s (.slice o l.length cap) ∧ l.length ≤ maxLen ∧ Rd W o l ∧ isB l := by
  obtain ⟨cs, rfl, hsz⟩ := okWide_struct Try.underlying52 hv
  obtain ⟨c0, c1, c2, c3, c4, rfl⟩ := array5 (hsz.trans cellsLawsPacket)
  obtain ⟨fuel, hf⟩ := h
  obtain ⟨a, b, f, s, o, cap, l, e, r⟩ := open_packet_cells (by simpa [Value.cells] using hf)
  simp at e
  obtain ⟨rfl, rfl, rfl, rfl, rfl⟩ := e
  exact ⟨a, b, f, s, o, cap, l, rfl, r⟩

set_option maxHeartbeats 400000 in
theorem szPacket_any (a b f s : Int) (o : Option Addr) (len cap : Nat) (n : Int) (w : World) (hl : len ≤ maxLen) (h0 : 0 ≤ n) (h1 : n ≤ 1048576) :
    Calls Try.prog 80 #[pkt a b f s (.slice o len cap), .int .i64 n] w fun e w' => e = .returned (.int .i64 (if n - len < 0 then -1 else n - len)) ∧ Below w.heap.size w w' := by
  have hB : Below w.heap.size w w := Below.refl _ _
  by_cases h : n - len < 0
  · have hs := szByteS_any o len cap n
    rw [if_pos h] at *
    go_enter Try.func80, Try.ntmps80
    go_wp2_with (go_at_call 92; refine (hs _ hl h0 h1).mono ?_; rintro e w1 ⟨rfl, rfl⟩)
    go_ret
    exact ⟨rfl, by (repeat (first | with_reducible exact hB | with_reducible exact Below.refl _ _ | with_reducible refine Below.drew ?_ | with_reducible refine below_drewN ?_ _ | with_reducible refine Below.alloc ?_ ?_ _ | with_reducible refine Below.setCell ?_ ?_ _ | (focus (simp; done)) | (focus (simp; omega)) | omega))⟩
  · have hs := szByteS_any o len cap n
    rw [if_neg h] at *
    go_enter Try.func80, Try.ntmps80
    go_wp2_with (go_at_call 92; refine (hs _ hl h0 h1).mono ?_; rintro e w1 ⟨rfl, rfl⟩)
    go_ret
    exact ⟨rfl, by (repeat (first | with_reducible exact hB | with_reducible exact Below.refl _ _ | with_reducible refine Below.drew ?_ | with_reducible refine below_drewN ?_ _ | with_reducible refine Below.alloc ?_ ?_ _ | with_reducible refine Below.setCell ?_ ?_ _ | (focus (simp; done)) | (focus (simp; omega)) | omega))⟩

set_option maxHeartbeats 2000000 in
theorem toPacket_any (a b f s : Int) (o : Option Addr) (cap : Nat) (l : List Int) (w : World) (hR : Rd w o l) (hB8 : isB l) (hlen : l.length ≤ 1048576) :
    Calls Try.prog 82 #[pkt a b f s (.slice o l.length cap)] w fun e w' => ∃ g, e = .returned (pkt a b f s (.slice (some ⟨g, 0, none⟩) l.length l.length)) ∧ ownB w' w.heap.size (.slice (some ⟨g, 0, none⟩) l.length l.length) l ∧ Below w.heap.size w w' := by
  have hB : Below w.heap.size w w := Below.refl _ _
  go_enter Try.func82, Try.ntmps82
  go_wp2_with (first | (go_at_call 53; refine (toFlow_any _ _ _).mono ?_; rintro e w1a ⟨rfl, hba⟩; obtain ⟨hca, hfa⟩ := bcell hba; have hz0a : w.heap.size < w1a.heap.size := (by have hz := hba.size; (try simp at hz); omega); have hz1a : w.heap.size + 1 < w1a.heap.size := (by have hz := hba.size; (try simp at hz); omega); have hz2a : w.heap.size + 1 + 1 < w1a.heap.size := (by have hz := hba.size; (try simp at hz); omega); have hB : Below w.heap.size w w1a := (by refine Below.trans ?_ (hba.mono (by have hs := hB.size; (try simp) <;> omega)); (repeat (first | with_reducible exact hB | with_reducible exact Below.refl _ _ | with_reducible refine Below.drew ?_ | with_reducible refine below_drewN ?_ _ | with_reducible refine Below.alloc ?_ ?_ _ | with_reducible refine Below.setCell ?_ ?_ _ | (focus (simp; done)) | (focus (simp; omega)) | omega)))) | (go_at_call 16; refine (toByteS_any o cap l _ (hR.kept (by (repeat (first | with_reducible exact hB | with_reducible exact Below.refl _ _ | with_reducible refine Below.drew ?_ | with_reducible refine below_drewN ?_ _ | with_reducible refine Below.alloc ?_ ?_ _ | with_reducible refine Below.setCell ?_ ?_ _ | (focus (simp; done)) | (focus (simp; omega)) | omega)))) hB8 hlen).mono ?_; rintro e w1b ⟨g, rfl, hown, hbb⟩; obtain ⟨hcb, hfb⟩ := bcell hbb; have hz0b : w.heap.size < w1b.heap.size := (by have hz := hbb.size; (try simp at hz); omega); have hz1b : w.heap.size + 1 < w1b.heap.size := (by have hz := hbb.size; (try simp at hz); omega); have hz2b : w.heap.size + 1 + 1 < w1b.heap.size := (by have hz := hbb.size; (try simp at hz); omega); have hB : Below w.heap.size w w1b := (by refine Below.trans ?_ (hbb.mono (by have hs := hB.size; (try simp) <;> omega)); (repeat (first | with_reducible exact hB | with_reducible exact Below.refl _ _ | with_reducible refine Below.drew ?_ | with_reducible refine below_drewN ?_ _ | with_reducible refine Below.alloc ?_ ?_ _ | with_reducible refine Below.setCell ?_ ?_ _ | (focus (simp; done)) | (focus (simp; omega)) | omega)))))
  have hown' : ownB w1b w1a.heap.size (.slice (some ⟨g, 0, none⟩) l.length l.length) l := by simpa using hown
  clear hown hbb hba
  refine bodyPost_ret (v := pkt a b f s (.slice (some ⟨g, 0, none⟩) l.length l.length)) (by simp [results, Try.results82, go_sem, hcb, hca, hz0a, hz1a, hz2a, hz0b, hz1b, hz2b]) rfl ⟨g, rfl, ?_, ?_⟩
  · refine own_mono (base := w1a.heap.size) ?_ (Nat.le_of_lt hz0a)
    repeat (refine ownsRow_setCell_below ?_ (by simp <;> omega) _)
    exact hown'
  · (repeat (first | with_reducible exact hB | with_reducible exact Below.refl _ _ | with_reducible refine Below.drew ?_ | with_reducible refine below_drewN ?_ _ | with_reducible refine Below.alloc ?_ ?_ _ | with_reducible refine Below.setCell ?_ ?_ _ | (focus (simp; done)) | (focus (simp; omega)) | omega))

set_option maxHeartbeats 1000000 in
theorem eqPacket_same (a b f s : Int) (o1 o2 : Option Addr) (c1 c2 : Nat) (l : List Int) (w : World) (h1 : Rd w o1 l) (h2 : Rd w o2 l) (hl : l.length ≤ 1048576) :
    Calls Try.prog 44 #[pkt a b f s (.slice o1 l.length c1), pkt a b f s (.slice o2 l.length c2)] w fun e w' => e = .returned (.bool true) ∧ Below w.heap.size w w' := by
  have hB : Below w.heap.size w w := Below.refl _ _
  go_enter Try.func44, Try.ntmps44
  go_wp2_with (first | (go_at_call 56; refine (eqFlow_same _ _ _).mono ?_; rintro e w1 ⟨rfl, hb⟩; obtain ⟨hc, hf⟩ := bcell hb; have hz0 : w.heap.size < w1.heap.size := (by have hz := hb.size; (try simp at hz); omega); have hz1 : w.heap.size + 1 < w1.heap.size := (by have hz := hb.size; (try simp at hz); omega); have hB : Below w.heap.size w w1 := (by refine Below.trans ?_ (hb.mono (by have hs := hB.size; (try simp) <;> omega)); (repeat (first | with_reducible exact hB | with_reducible exact Below.refl _ _ | with_reducible refine Below.drew ?_ | with_reducible refine below_drewN ?_ _ | with_reducible refine Below.alloc ?_ ?_ _ | with_reducible refine Below.setCell ?_ ?_ _ | (focus (simp; done)) | (focus (simp; omega)) | omega)))) | (go_at_call 19; refine (eqByteS_same o1 o2 c1 c2 l _ (h1.kept (by (repeat (first | with_reducible exact hB | with_reducible exact Below.refl _ _ | with_reducible refine Below.drew ?_ | with_reducible refine below_drewN ?_ _ | with_reducible refine Below.alloc ?_ ?_ _ | with_reducible refine Below.setCell ?_ ?_ _ | (focus (simp; done)) | (focus (simp; omega)) | omega)))) (h2.kept (by (repeat (first | with_reducible exact hB | with_reducible exact Below.refl _ _ | with_reducible refine Below.drew ?_ | with_reducible refine below_drewN ?_ _ | with_reducible refine Below.alloc ?_ ?_ _ | with_reducible refine Below.setCell ?_ ?_ _ | (focus (simp; done)) | (focus (simp; omega)) | omega)))) hl).mono ?_; rintro e w1 ⟨rfl, hb⟩; obtain ⟨hc, hf⟩ := bcell hb; have hz0 : w.heap.size < w1.heap.size := (by have hz := hb.size; (try simp at hz); omega); have hz1 : w.heap.size + 1 < w1.heap.size := (by have hz := hb.size; (try simp at hz); omega); have hB : Below w.heap.size w w1 := (by refine Below.trans ?_ (hb.mono (by have hs := hB.size; (try simp) <;> omega)); (repeat (first | with_reducible exact hB | with_reducible exact Below.refl _ _ | with_reducible refine Below.drew ?_ | with_reducible refine below_drewN ?_ _ | with_reducible refine Below.alloc ?_ ?_ _ | with_reducible refine Below.setCell ?_ ?_ _ | (focus (simp; done)) | (focus (simp; omega)) | omega)))))
  go_ret
  exact ⟨rfl, by (repeat (first | with_reducible exact hB | with_reducible exact Below.refl _ _ | with_reducible refine Below.drew ?_ | with_reducible refine below_drewN ?_ _ | with_reducible refine Below.alloc ?_ ?_ _ | with_reducible refine Below.setCell ?_ ?_ _ | (focus (simp; done)) | (focus (simp; omega)) | omega))⟩

end Go.Proofs.Ytoeoiljddcjphaa
