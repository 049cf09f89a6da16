/- What is carried on comes to each in order: the walk of FnNexts. -/
import Derived.Test.YtoeoiljddcjphaaSDrC2
import Derived.Test.YtoeoiljddcjphaaGrSSameC
import Derived.Test.YtoeoiljddcjphaaGrShH
import Derived.Test.YtoeoiljddcjphaaShN
import Derived.Test.YtoeoiljddcjphaaGrWires
import Derived.Deep.RegionHeld3
namespace Go.Proofs.Ytoeoiljddcjphaa
open Go.ChangeShapes Go.WideShapes Go.ChangeAt Go.RowKit Go.Joins
set_option linter.unusedVariables false
set_option linter.unusedSimpArgs false

theorem ok_at {a b f s : Int} {n : Nat} {g : List (Int × Int)} {pl st : Int} (h : carrierOkB a b f s n g pl st = true) (k : Nat) (hk : k < g.length) : carrierOkB a b f s n g (k : Int) st = true := by
  unfold carrierOkB at h ⊢
  rw [Bool.and_eq_true] at h ⊢
  refine ⟨?_, h.2⟩
  have := headB_iff.1 h.1
  exact headB_iff.2 ⟨this.1, this.2.1, this.2.2.1, by omega, by omega, this.2.2.2.2.2.1, this.2.2.2.2.2.2.1, trivial⟩
theorem hunt_at {a b f s : Int} {L : List Int} {g : List (Int × Int)} {pl st : Int} (h : carrierOkB a b f s L.length g pl st = true) (k : Nat) (hk : k < g.length) : huntM ⟨a, b, f, s, L, g, (k : Int), st⟩ = huntTo g g.length := by
  have e : Cm.ok ⟨a, b, f, s, L, g, (k : Int), st⟩ = true := ok_at h k hk
  unfold huntM
  rw [if_pos e]
theorem next_end {a b f s : Int} {L : List Int} {g : List (Int × Int)} {pl st : Int} (h : carrierOkB a b f s L.length g pl st = true) (k : Nat) (hk : k + 1 = g.length) : nextM ⟨a, b, f, s, L, g, (k : Int), st⟩ = (⟨a, b, f, s, L, g, (k : Int), st⟩, false) := by
  have e : Cm.ok ⟨a, b, f, s, L, g, (k : Int), st⟩ = true := ok_at h k (by omega)
  unfold nextM
  rw [if_pos e, if_pos (show (k : Int) = (g.length : Int) - 1 by omega)]
theorem next_on {a b f s : Int} {L : List Int} {g : List (Int × Int)} {pl st : Int} (h : carrierOkB a b f s L.length g pl st = true) (k : Nat) (hk : k + 1 < g.length) : nextM ⟨a, b, f, s, L, g, (k : Int), st⟩ = (⟨a, b, f, s, L, g, (k : Int) + 1, st⟩, true) := by
  have e : Cm.ok ⟨a, b, f, s, L, g, (k : Int), st⟩ = true := ok_at h k (by omega)
  unfold nextM
  rw [if_pos e, if_neg (show ¬ (k : Int) = (g.length : Int) - 1 by omega)]
theorem rg_of {lo hi D n cg : Nat} {w : World} {a b f s pl st : Int} {vl : Value} {og : Option Addr} {m : Cm} (h : InCm lo hi w (crr a b f s vl (.slice og n cg) pl st) m) (hD : hi ≤ D) : RdL layG D w og m.g := by
  obtain ⟨vl', vg', e1, _, rv⟩ := h.rd.le hD
  have e2 : Value.slice og n cg = vg' := by injection e1 with e1; simp at e1; exact e1.2.2.2.2.2.1
  rw [← e2] at rv
  obtain ⟨o', c', e7, r⟩ := rv
  injection e7 with e8 _ _
  subst e8
  exact r
theorem RdI_of {C D n c : Nat} {w : World} {o : Option Addr} {l : List Int} (h : RdV layI C w (.slice o n c) l) (hc : C ≤ D) : RdI D w o l := by
  obtain ⟨o', c', e, r⟩ := h
  injection e with e1 _ _
  subst e1
  exact r.le hc
theorem seg_at {a b f s : Int} {n : Nat} {g : List (Int × Int)} {pl st : Int} (h : carrierOkB a b f s n g pl st = true) (k : Nat) (hk : k < g.length) : segOkB (g.getD k (0, 0)).1 (g.getD k (0, 0)).2 = true := by
  have h2 : routeR (opens3 f) 0 g = true := by unfold carrierOkB at h; rw [Bool.and_eq_true] at h; exact h.2
  exact routeR_seg _ g 0 h2 k hk
theorem set8 {W : World} {X : Nat} {c0 c1 c2 c3 c4 c5 c6 c7 d0 d1 d2 d3 d4 d5 d6 d7 : Value} {T : TypeId} (h : W.heap[X]? = some (.cells #[c0, c1, c2, c3, c4, c5, c6, c7] T (0, 0))) :
    ((((((((W.setCell ⟨X, 0, none⟩ d0).setCell ⟨X, 1, none⟩ d1).setCell ⟨X, 2, none⟩ d2).setCell ⟨X, 3, none⟩ d3).setCell ⟨X, 4, none⟩ d4).setCell ⟨X, 5, none⟩ d5).setCell ⟨X, 6, none⟩ d6).setCell ⟨X, 7, none⟩ d7).heap[X]? = some (.cells #[d0, d1, d2, d3, d4, d5, d6, d7] T (0, 0)) := by
  have h0 : (W.setCell ⟨X, 0, none⟩ d0).heap[X]? = some (.cells #[d0, c1, c2, c3, c4, c5, c6, c7] T (0, 0)) := by rw [box_set _ X 0 _ T d0 h]; rfl
  have h1 : ((W.setCell ⟨X, 0, none⟩ d0).setCell ⟨X, 1, none⟩ d1).heap[X]? = some (.cells #[d0, d1, c2, c3, c4, c5, c6, c7] T (0, 0)) := by rw [box_set _ X 1 _ T d1 h0]; rfl
  have h2 : (((W.setCell ⟨X, 0, none⟩ d0).setCell ⟨X, 1, none⟩ d1).setCell ⟨X, 2, none⟩ d2).heap[X]? = some (.cells #[d0, d1, d2, c3, c4, c5, c6, c7] T (0, 0)) := by rw [box_set _ X 2 _ T d2 h1]; rfl
  have h3 : ((((W.setCell ⟨X, 0, none⟩ d0).setCell ⟨X, 1, none⟩ d1).setCell ⟨X, 2, none⟩ d2).setCell ⟨X, 3, none⟩ d3).heap[X]? = some (.cells #[d0, d1, d2, d3, c4, c5, c6, c7] T (0, 0)) := by rw [box_set _ X 3 _ T d3 h2]; rfl
  have h4 : (((((W.setCell ⟨X, 0, none⟩ d0).setCell ⟨X, 1, none⟩ d1).setCell ⟨X, 2, none⟩ d2).setCell ⟨X, 3, none⟩ d3).setCell ⟨X, 4, none⟩ d4).heap[X]? = some (.cells #[d0, d1, d2, d3, d4, c5, c6, c7] T (0, 0)) := by rw [box_set _ X 4 _ T d4 h3]; rfl
  have h5 : ((((((W.setCell ⟨X, 0, none⟩ d0).setCell ⟨X, 1, none⟩ d1).setCell ⟨X, 2, none⟩ d2).setCell ⟨X, 3, none⟩ d3).setCell ⟨X, 4, none⟩ d4).setCell ⟨X, 5, none⟩ d5).heap[X]? = some (.cells #[d0, d1, d2, d3, d4, d5, c6, c7] T (0, 0)) := by rw [box_set _ X 5 _ T d5 h4]; rfl
  have h6 : (((((((W.setCell ⟨X, 0, none⟩ d0).setCell ⟨X, 1, none⟩ d1).setCell ⟨X, 2, none⟩ d2).setCell ⟨X, 3, none⟩ d3).setCell ⟨X, 4, none⟩ d4).setCell ⟨X, 5, none⟩ d5).setCell ⟨X, 6, none⟩ d6).heap[X]? = some (.cells #[d0, d1, d2, d3, d4, d5, d6, c7] T (0, 0)) := by rw [box_set _ X 6 _ T d6 h5]; rfl
  have h7 : ((((((((W.setCell ⟨X, 0, none⟩ d0).setCell ⟨X, 1, none⟩ d1).setCell ⟨X, 2, none⟩ d2).setCell ⟨X, 3, none⟩ d3).setCell ⟨X, 4, none⟩ d4).setCell ⟨X, 5, none⟩ d5).setCell ⟨X, 6, none⟩ d6).setCell ⟨X, 7, none⟩ d7).heap[X]? = some (.cells #[d0, d1, d2, d3, d4, d5, d6, d7] T (0, 0)) := by rw [box_set _ X 7 _ T d7 h6]; rfl
  exact h7
theorem stp8 (W : World) (X : Nat) (d0 d1 d2 d3 d4 d5 d6 d7 : Value) : Stp X (X + 1) W ((((((((W.setCell ⟨X, 0, none⟩ d0).setCell ⟨X, 1, none⟩ d1).setCell ⟨X, 2, none⟩ d2).setCell ⟨X, 3, none⟩ d3).setCell ⟨X, 4, none⟩ d4).setCell ⟨X, 5, none⟩ d5).setCell ⟨X, 6, none⟩ d6).setCell ⟨X, 7, none⟩ d7) := by
  have one : ∀ (V : World) (j : Nat) (u : Value), Stp X (X + 1) V (V.setCell ⟨X, j, none⟩ u) := fun V j u => ⟨rfl, rfl, rfl, by simp [World.setCell], fun i _ hn => Below.heap_setCell V ⟨X, j, none⟩ u i (by show i ≠ X; omega)⟩
  exact (((((((one W 0 d0).trans (one _ 1 d1)).trans (one _ 2 d2)).trans (one _ 3 d3)).trans (one _ 4 d4)).trans (one _ 5 d5)).trans (one _ 6 d6)).trans (one _ 7 d7)

set_option maxRecDepth 100000 in
set_option maxHeartbeats 8000000 in
theorem lawFnNexts (o : Option Addr) (cap : Nat) (l : List Int) (w : World) (hm : l.length ≤ maxLen) (hR : Rd w o l) (hB8 : isB l) :
    Calls Try.prog 3 #[.slice o l.length cap] w fun e w' => e = .returned (.bool true) ∧ Below w.heap.size w w' := by
  have HW := hide (fun W => wires_any W)
  have HDR := hide (drawNext_any o cap l w hR hB8 hm)
  clear hR hB8 hm
  go_enter Try.func3, Try.ntmps3
  go_wp2_with fail
  refine HDR.out.mono ?_
  rintro e w1 ⟨v, ⟨a, b, f, s, L, g, pl, st⟩, rfl, hown, hLb, hLn, hgn, hB1⟩
  have inm := InCm.of hown
  obtain ⟨vl, vg, rfl, hrw, hsg⟩ := hown
  dsimp only at hrw hsg hLb hLn hgn inm ⊢
  obtain ⟨ov, cv, ev, _⟩ := hrw.open
  subst ev
  obtain ⟨og, cg, eg, _⟩ := hsg.open
  subst eg
  have HF : Hid (∀ p : Int, fitCm ⟨a, b, f, s, L, g, p, st⟩) := fun p => ⟨by show L.length + g.length ≤ 1048576; omega, hLb⟩
  have hl : L.length ≤ maxLen := by unfold maxLen; omega
  have hgl : g.length ≤ maxLen := by unfold maxLen; omega
  clear hrw hsg HDR
  have bx : (w1.alloc (.cells #[.int .i64 a, .int .i64 b, .int .i64 f, .int .i64 s, .slice ov L.length cv, .slice og g.length cg, .int .i64 pl, .int .i64 st] 29)).heap[w1.heap.size]? = some (.cells #[.int .i64 a, .int .i64 b, .int .i64 f, .int .i64 s, .slice ov L.length cv, .slice og g.length cg, .int .i64 pl, .int .i64 st] 29 (0, 0)) := World.alloc_heap_new w1 _
  have hB2 : Below w.heap.size w (w1.alloc (.cells #[.int .i64 a, .int .i64 b, .int .i64 f, .int .i64 s, .slice ov L.length cv, .slice og g.length cg, .int .i64 pl, .int .i64 st] 29)) := hB1.alloc hB1.size _
  have in2 : InCm w.heap.size w1.heap.size (w1.alloc (.cells #[.int .i64 a, .int .i64 b, .int .i64 f, .int .i64 s, .slice ov L.length cv, .slice og g.length cg, .int .i64 pl, .int .i64 st] 29)) (crr a b f s (.slice ov L.length cv) (.slice og g.length cg) pl st) ⟨a, b, f, s, L, g, pl, st⟩ := inm.step (Stp.of (lo := 0) (hi := 0) ((Below.refl _ _).alloc (Nat.le_refl _) _)) (.inl (Nat.zero_le _))
  have hsX : w1.heap.size < (w1.alloc (.cells #[.int .i64 a, .int .i64 b, .int .i64 f, .int .i64 s, .slice ov L.length cv, .slice og g.length cg, .int .i64 pl, .int .i64 st] 29)).heap.size := by simp
  have p0 : (w1.alloc (.cells #[.int .i64 a, .int .i64 b, .int .i64 f, .int .i64 s, .slice ov L.length cv, .slice og g.length cg, .int .i64 pl, .int .i64 st] 29)).cell? ⟨w1.heap.size, 0, none⟩ = some (.int .i64 a) := block_cell bx 0 _ rfl
  have p1 : (w1.alloc (.cells #[.int .i64 a, .int .i64 b, .int .i64 f, .int .i64 s, .slice ov L.length cv, .slice og g.length cg, .int .i64 pl, .int .i64 st] 29)).cell? ⟨w1.heap.size, 1, none⟩ = some (.int .i64 b) := block_cell bx 1 _ rfl
  have p2 : (w1.alloc (.cells #[.int .i64 a, .int .i64 b, .int .i64 f, .int .i64 s, .slice ov L.length cv, .slice og g.length cg, .int .i64 pl, .int .i64 st] 29)).cell? ⟨w1.heap.size, 2, none⟩ = some (.int .i64 f) := block_cell bx 2 _ rfl
  have p3 : (w1.alloc (.cells #[.int .i64 a, .int .i64 b, .int .i64 f, .int .i64 s, .slice ov L.length cv, .slice og g.length cg, .int .i64 pl, .int .i64 st] 29)).cell? ⟨w1.heap.size, 3, none⟩ = some (.int .i64 s) := block_cell bx 3 _ rfl
  have p4 : (w1.alloc (.cells #[.int .i64 a, .int .i64 b, .int .i64 f, .int .i64 s, .slice ov L.length cv, .slice og g.length cg, .int .i64 pl, .int .i64 st] 29)).cell? ⟨w1.heap.size, 4, none⟩ = some (.slice ov L.length cv) := block_cell bx 4 _ rfl
  have p5 : (w1.alloc (.cells #[.int .i64 a, .int .i64 b, .int .i64 f, .int .i64 s, .slice ov L.length cv, .slice og g.length cg, .int .i64 pl, .int .i64 st] 29)).cell? ⟨w1.heap.size, 5, none⟩ = some (.slice og g.length cg) := block_cell bx 5 _ rfl
  have p6 : (w1.alloc (.cells #[.int .i64 a, .int .i64 b, .int .i64 f, .int .i64 s, .slice ov L.length cv, .slice og g.length cg, .int .i64 pl, .int .i64 st] 29)).cell? ⟨w1.heap.size, 6, none⟩ = some (.int .i64 pl) := block_cell bx 6 _ rfl
  have p7 : (w1.alloc (.cells #[.int .i64 a, .int .i64 b, .int .i64 f, .int .i64 s, .slice ov L.length cv, .slice og g.length cg, .int .i64 pl, .int .i64 st] 29)).cell? ⟨w1.heap.size, 7, none⟩ = some (.int .i64 st) := block_cell bx 7 _ rfl
  have Hs := hide (And.intro bx (And.intro in2 hB2))
  clear bx in2 inm
  go_wp2_with fail
  obtain ⟨bx, in2, hB2⟩ := Hs.out
  clear Hs p0 p1 p2 p3 p4 p5 p6 p7
  generalize w1.alloc (.cells #[.int .i64 a, .int .i64 b, .int .i64 f, .int .i64 s, .slice ov L.length cv, .slice og g.length cg, .int .i64 pl, .int .i64 st] 29) = w2 at *
  have hwX : w.heap.size ≤ w1.heap.size := hB1.size
  obtain ⟨X, hXe⟩ : ∃ X, w1.heap.size = X := ⟨_, rfl⟩
  rw [hXe] at bx in2 hsX hwX ⊢
  clear hB1 hXe
  have rg := rg_of in2 (Nat.le_of_lt hsX)
  have hGd := RdG_rd.1 rg
  have HOK := hide (specCarrierOk_any a b f s ov og L.length cv cg g pl st w2 hl hgl hGd)
  obtain ⟨ok, hok⟩ : ∃ ok, carrierOkB a b f s L.length g pl st = ok := ⟨_, rfl⟩
  rw [hok] at HOK
  clear hGd rg
  refine HOK.out.mono ?_
  rintro e w3 ⟨rfl, hb3⟩
  clear HOK
  have bx3 := (hb3.block _ hsX).trans bx
  have in3 := in2.step (Stp.of (lo := 0) (hi := 0) hb3) (.inl (Nat.zero_le _))
  have hB3 := hB2.trans (hb3.mono hB2.size)
  have hs3 : X < w3.heap.size := Nat.lt_of_lt_of_le hsX hb3.size
  clear bx in2 hB2 hb3 hsX
  cases ok with
  | false =>
    have hnx : nextM ⟨a, b, f, s, L, g, pl, st⟩ = (Cm.zero, false) := by unfold nextM Cm.ok; dsimp only; rw [hok]; rfl
    have hhu : huntM ⟨a, b, f, s, L, g, pl, st⟩ = [] := by unfold huntM Cm.ok; dsimp only; rw [hok]; rfl
    have HN := hide (implNext_sh _ ⟨a, b, f, s, L, g, pl, st⟩ w3 (in3.rd.le (Nat.le_of_lt hs3)) in3.cap (HF.out pl))
    rw [hnx] at HN
    dsimp only at HN
    have p0 : w3.cell? ⟨X, 0, none⟩ = some (.int .i64 a) := block_cell bx3 0 _ rfl
    have p1 : w3.cell? ⟨X, 1, none⟩ = some (.int .i64 b) := block_cell bx3 1 _ rfl
    have p2 : w3.cell? ⟨X, 2, none⟩ = some (.int .i64 f) := block_cell bx3 2 _ rfl
    have p3 : w3.cell? ⟨X, 3, none⟩ = some (.int .i64 s) := block_cell bx3 3 _ rfl
    have p4 : w3.cell? ⟨X, 4, none⟩ = some (.slice ov L.length cv) := block_cell bx3 4 _ rfl
    have p5 : w3.cell? ⟨X, 5, none⟩ = some (.slice og g.length cg) := block_cell bx3 5 _ rfl
    have p6 : w3.cell? ⟨X, 6, none⟩ = some (.int .i64 pl) := block_cell bx3 6 _ rfl
    have p7 : w3.cell? ⟨X, 7, none⟩ = some (.int .i64 st) := block_cell bx3 7 _ rfl
    have Hs := hide (And.intro bx3 (And.intro in3 hB3))
    clear bx3 in3 hB3 hnx
    go_wp2_with fail
    obtain ⟨bx3, in3, hB3⟩ := Hs.out
    clear Hs p0 p1 p2 p3 p4 p5 p6 p7
    refine HN.out.mono ?_
    rintro e w4 ⟨v4, rfl, in4, hb4⟩
    clear HN
    obtain ⟨zl, zg, rfl, ⟨oz, cz, rfl, _⟩, ⟨oy, cy, rfl, _⟩⟩ := in4.rd
    have bx4 := box_al ((hb4.block _ hs3).trans bx3) (.cells #[.int .i64 0, .int .i64 0, .int .i64 0, .int .i64 0, .slice oz 0 cz, .slice oy 0 cy, .int .i64 0, .int .i64 0] 29)
    have in5 := in3.step (Stp.of (lo := 0) (hi := 0) (hb4.trans (((Below.refl _ _).alloc (Nat.le_refl _) (.cells #[.int .i64 0, .int .i64 0, .int .i64 0, .int .i64 0, .slice oz 0 cz, .slice oy 0 cy, .int .i64 0, .int .i64 0] 29)).mono hb4.size))) (.inl (Nat.zero_le _))
    have hB4 : Below w.heap.size w (w4.alloc (.cells #[.int .i64 0, .int .i64 0, .int .i64 0, .int .i64 0, .slice oz 0 cz, .slice oy 0 cy, .int .i64 0, .int .i64 0] 29)) := (hB3.trans (hb4.mono hB3.size)).alloc (by have := hb4.size; omega) _
    have hs4 : X < (w4.alloc (.cells #[.int .i64 0, .int .i64 0, .int .i64 0, .int .i64 0, .slice oz 0 cz, .slice oy 0 cy, .int .i64 0, .int .i64 0] 29)).heap.size := box_lt bx4
    have p0 : (w4.alloc (.cells #[.int .i64 0, .int .i64 0, .int .i64 0, .int .i64 0, .slice oz 0 cz, .slice oy 0 cy, .int .i64 0, .int .i64 0] 29)).cell? ⟨X, 0, none⟩ = some (.int .i64 a) := block_cell bx4 0 _ rfl
    have p1 : (w4.alloc (.cells #[.int .i64 0, .int .i64 0, .int .i64 0, .int .i64 0, .slice oz 0 cz, .slice oy 0 cy, .int .i64 0, .int .i64 0] 29)).cell? ⟨X, 1, none⟩ = some (.int .i64 b) := block_cell bx4 1 _ rfl
    have p2 : (w4.alloc (.cells #[.int .i64 0, .int .i64 0, .int .i64 0, .int .i64 0, .slice oz 0 cz, .slice oy 0 cy, .int .i64 0, .int .i64 0] 29)).cell? ⟨X, 2, none⟩ = some (.int .i64 f) := block_cell bx4 2 _ rfl
    have p3 : (w4.alloc (.cells #[.int .i64 0, .int .i64 0, .int .i64 0, .int .i64 0, .slice oz 0 cz, .slice oy 0 cy, .int .i64 0, .int .i64 0] 29)).cell? ⟨X, 3, none⟩ = some (.int .i64 s) := block_cell bx4 3 _ rfl
    have p4 : (w4.alloc (.cells #[.int .i64 0, .int .i64 0, .int .i64 0, .int .i64 0, .slice oz 0 cz, .slice oy 0 cy, .int .i64 0, .int .i64 0] 29)).cell? ⟨X, 4, none⟩ = some (.slice ov L.length cv) := block_cell bx4 4 _ rfl
    have p5 : (w4.alloc (.cells #[.int .i64 0, .int .i64 0, .int .i64 0, .int .i64 0, .slice oz 0 cz, .slice oy 0 cy, .int .i64 0, .int .i64 0] 29)).cell? ⟨X, 5, none⟩ = some (.slice og g.length cg) := block_cell bx4 5 _ rfl
    have p6 : (w4.alloc (.cells #[.int .i64 0, .int .i64 0, .int .i64 0, .int .i64 0, .slice oz 0 cz, .slice oy 0 cy, .int .i64 0, .int .i64 0] 29)).cell? ⟨X, 6, none⟩ = some (.int .i64 pl) := block_cell bx4 6 _ rfl
    have p7 : (w4.alloc (.cells #[.int .i64 0, .int .i64 0, .int .i64 0, .int .i64 0, .slice oz 0 cz, .slice oy 0 cy, .int .i64 0, .int .i64 0] 29)).cell? ⟨X, 7, none⟩ = some (.int .i64 st) := block_cell bx4 7 _ rfl
    have Hs := hide (And.intro bx4 (And.intro in5 hB4))
    have Hs4 := hide hs4
    clear bx4 in5 hB4 bx3 in3 hB3 in4 hb4 hs4
    simp only [Cm.zero, List.length_nil]
    go_wp2_with fail
    obtain ⟨bx4, in5, hB4⟩ := Hs.out
    have hs4 := Hs4.out
    clear Hs Hs4 p0 p1 p2 p3 p4 p5 p6 p7
    generalize (w4.alloc (.cells #[.int .i64 0, .int .i64 0, .int .i64 0, .int .i64 0, .slice oz 0 cz, .slice oy 0 cy, .int .i64 0, .int .i64 0] 29)) = wa at *
    have rg := rg_of in5 (Nat.le_of_lt hs4)
    have HH := hide (implHere_any a b f s ov og L.length cv cg g pl st wa hl hgl (RdG_rd.1 rg))
    rw [hok] at HH
    simp only [hereI] at HH
    clear rg
    refine HH.out.mono ?_
    rintro e w5 ⟨rfl, hb5⟩
    clear HH
    have bx5 := box_al ((hb5.block _ hs4).trans bx4) (.cells #[.int .i64 0, .int .i64 0] 35)
    have in6 := in5.step (Stp.of (lo := 0) (hi := 0) (hb5.trans (((Below.refl _ _).alloc (Nat.le_refl _) (.cells #[.int .i64 0, .int .i64 0] 35)).mono hb5.size))) (.inl (Nat.zero_le _))
    have hB5 : Below w.heap.size w (w5.alloc (.cells #[.int .i64 0, .int .i64 0] 35)) := (hB4.trans (hb5.mono hB4.size)).alloc (by have := hb5.size; omega) _
    have hs5 : X < (w5.alloc (.cells #[.int .i64 0, .int .i64 0] 35)).heap.size := box_lt bx5
    have HU := hide (implHunt_sh _ ⟨a, b, f, s, L, g, pl, st⟩ (w5.alloc (.cells #[.int .i64 0, .int .i64 0] 35)) (in6.rd.le (Nat.le_of_lt hs5)) in6.cap (HF.out pl))
    rw [hhu] at HU
    have p0 : (w5.alloc (.cells #[.int .i64 0, .int .i64 0] 35)).cell? ⟨X, 0, none⟩ = some (.int .i64 a) := block_cell bx5 0 _ rfl
    have p1 : (w5.alloc (.cells #[.int .i64 0, .int .i64 0] 35)).cell? ⟨X, 1, none⟩ = some (.int .i64 b) := block_cell bx5 1 _ rfl
    have p2 : (w5.alloc (.cells #[.int .i64 0, .int .i64 0] 35)).cell? ⟨X, 2, none⟩ = some (.int .i64 f) := block_cell bx5 2 _ rfl
    have p3 : (w5.alloc (.cells #[.int .i64 0, .int .i64 0] 35)).cell? ⟨X, 3, none⟩ = some (.int .i64 s) := block_cell bx5 3 _ rfl
    have p4 : (w5.alloc (.cells #[.int .i64 0, .int .i64 0] 35)).cell? ⟨X, 4, none⟩ = some (.slice ov L.length cv) := block_cell bx5 4 _ rfl
    have p5 : (w5.alloc (.cells #[.int .i64 0, .int .i64 0] 35)).cell? ⟨X, 5, none⟩ = some (.slice og g.length cg) := block_cell bx5 5 _ rfl
    have p6 : (w5.alloc (.cells #[.int .i64 0, .int .i64 0] 35)).cell? ⟨X, 6, none⟩ = some (.int .i64 pl) := block_cell bx5 6 _ rfl
    have p7 : (w5.alloc (.cells #[.int .i64 0, .int .i64 0] 35)).cell? ⟨X, 7, none⟩ = some (.int .i64 st) := block_cell bx5 7 _ rfl
    have HB := hide hB5
    clear bx5 in6 hB5 bx4 in5 hB4 hb5 hs5 hhu
    simp only [Bool.false_eq_true, if_false]
    go_wp2_with fail
    clear p0 p1 p2 p3 p4 p5 p6 p7
    generalize (w5.alloc (.cells #[.int .i64 0, .int .i64 0] 35)) = wb at *
    refine HU.out.mono ?_
    rintro e w6 ⟨v6, rfl, in7, hb6⟩
    obtain ⟨o6, c6, rfl, _⟩ := InL.rd in7
    have HB6 := hide (HB.out.trans (hb6.mono HB.out.size))
    clear in7 hb6 HU HB
    simp only [List.length_nil]
    go_wp2_with fail
    refine (HW.out w6).mono ?_
    rintro e w7 ⟨rfl, hb7⟩
    have HB7 := hide (HB6.out.trans (hb7.mono HB6.out.size))
    clear hb7 HB6
    go_wp2
    go_ret
    exact ⟨rfl, HB7.out⟩
  | true =>
    obtain ⟨_, _, _, hp0, hp1, _, _⟩ := carrierOkB_head hok
    obtain ⟨k0, rfl⟩ := Int.eq_ofNat_of_zero_le hp0
    have hk0 : k0 < g.length := by omega
    have HOKA := hide (fun (k : Nat) (hk : k < g.length) => ok_at hok k hk)
    have HSEG := hide (fun (k : Nat) (hk : k < g.length) => seg_at hok k hk)
    have HNE := hide (fun (k : Nat) (hk : k + 1 = g.length) => next_end hok k hk)
    have HNO := hide (fun (k : Nat) (hk : k + 1 < g.length) => next_on hok k hk)
    have HUE := hide (fun (k : Nat) (hk : k < g.length) => hunt_at hok k hk)
    have hlp := huntTo_len g g.length
    obtain ⟨hp, hhp⟩ : ∃ hp, huntTo g g.length = hp := ⟨_, rfl⟩
    rw [hhp] at hlp HUE
    have hlp8 : hp.length ≤ 1048576 := by omega
    have HU := hide (implHunt_sh _ ⟨a, b, f, s, L, g, (k0 : Int), st⟩ w3 (in3.rd.le (Nat.le_of_lt hs3)) in3.cap (HF.out k0))
    rw [HUE.out k0 hk0] at HU
    clear hok hhp hp0 hp1
    have p0 : w3.cell? ⟨X, 0, none⟩ = some (.int .i64 a) := block_cell bx3 0 _ rfl
    have p1 : w3.cell? ⟨X, 1, none⟩ = some (.int .i64 b) := block_cell bx3 1 _ rfl
    have p2 : w3.cell? ⟨X, 2, none⟩ = some (.int .i64 f) := block_cell bx3 2 _ rfl
    have p3 : w3.cell? ⟨X, 3, none⟩ = some (.int .i64 s) := block_cell bx3 3 _ rfl
    have p4 : w3.cell? ⟨X, 4, none⟩ = some (.slice ov L.length cv) := block_cell bx3 4 _ rfl
    have p5 : w3.cell? ⟨X, 5, none⟩ = some (.slice og g.length cg) := block_cell bx3 5 _ rfl
    have p6 : w3.cell? ⟨X, 6, none⟩ = some (.int .i64 (k0 : Int)) := block_cell bx3 6 _ rfl
    have p7 : w3.cell? ⟨X, 7, none⟩ = some (.int .i64 st) := block_cell bx3 7 _ rfl
    have Hs := hide (And.intro bx3 (And.intro in3 hB3))
    clear bx3 in3 hB3
    go_wp2_with fail
    obtain ⟨bx3, in3, hB3⟩ := Hs.out
    clear Hs p0 p1 p2 p3 p4 p5 p6 p7
    refine HU.out.mono ?_
    rintro e w4 ⟨vp, rfl, inp, hb4⟩
    clear HU
    obtain ⟨op, cp, rfl, _⟩ := InL.rd inp
    have bx4 := (hb4.block _ hs3).trans bx3
    have in4 := in3.step (Stp.of (lo := 0) (hi := 0) hb4) (.inl (Nat.zero_le _))
    have hB4 := hB3.trans (hb4.mono hB3.size)
    have c6 : w4.cell? ⟨X, 6, none⟩ = some (.int .i64 (k0 : Int)) := block_cell bx4 6 _ rfl
    have H0 := hide (And.intro bx4 (And.intro in4 (And.intro inp hB4)))
    have hX4 : X ≤ w4.heap.size := Nat.le_of_lt (Nat.lt_of_lt_of_le hs3 hb4.size)
    clear bx4 in4 inp hB4 bx3 in3 hB3 hb4
    go_wp2
    go_loopw [9] (fun nv wr => ∃ (k : Nat) (o1 og1 : Option Addr) (c1 cg1 lo hi : Nat), k < g.length ∧ nv = .int .i64 k ∧ wr.heap[X]? = some (.cells #[.int .i64 a, .int .i64 b, .int .i64 f, .int .i64 s, .slice o1 L.length c1, .slice og1 g.length cg1, .int .i64 (k : Int), .int .i64 st] 29 (0, 0)) ∧ InCm lo hi wr (crr a b f s (.slice o1 L.length c1) (.slice og1 g.length cg1) (k : Int) st) ⟨a, b, f, s, L, g, (k : Int), st⟩ ∧ hi ≤ wr.heap.size ∧ (hi ≤ X ∨ X < lo) ∧ InI w3.heap.size w4.heap.size wr (.slice op hp.length cp) hp ∧ w4.heap.size ≤ wr.heap.size ∧ Below w.heap.size w wr)
      (fun nv _ => g.length - (intOf nv).toNat)
    case atStart => exact ⟨k0, ov, og, cv, cg, w.heap.size, X, hk0, rfl, H0.out.1, H0.out.2.1, hX4, .inl (Nat.le_refl _), H0.out.2.2.1, Nat.le_refl _, H0.out.2.2.2⟩
    case round =>
      obtain ⟨k, o1, og1, c1, cg1, lo, hi, hk, rfl, bx, inx, hhi, hap, inp, hsr, hB⟩ := hrel
      clear H0 c6
      have hXr : X < wr.heap.size := box_lt bx
      have rg := rg_of inx hhi
      have hGd := RdG_rd.1 rg
      have HH := hide (implHere_any a b f s o1 og1 L.length c1 cg1 g (k : Int) st wr hl hgl hGd)
      rw [HOKA.out k hk, show hereI true g (k : Int) = g.getD k (0, 0) by simp [hereI]] at HH
      have hsk := HSEG.out k hk
      obtain ⟨bb, off, hoe, hbb, hcell⟩ : ∃ bb off, og1 = some ⟨bb, off, none⟩ ∧ bb < wr.heap.size ∧ ∀ i, i < g.length → wr.cell? ⟨bb, off + i * 2, none⟩ = some (.int .i64 (g.getD i (0, 0)).1) ∧ wr.cell? ⟨bb, off + i * 2 + 1, none⟩ = some (.int .i64 (g.getD i (0, 0)).2) := by
        rcases hGd with h | ⟨bb, off, h1, h2, h3⟩
        · subst h; simp at hk
        · exact ⟨bb, off, h1, h2, h3⟩
      subst hoe
      have hck := hcell k hk
      obtain ⟨sx, sy, hxy⟩ : ∃ x y, g.getD k (0, 0) = (x, y) := ⟨_, _, rfl⟩
      rw [hxy] at HH hsk hck
      dsimp only at HH hsk hck
      have z1 : (k : Int) < (g.length : Int) := by omega
      clear hGd hcell hxy rg
      have p0 : wr.cell? ⟨X, 0, none⟩ = some (.int .i64 a) := block_cell bx 0 _ rfl
      have p1 : wr.cell? ⟨X, 1, none⟩ = some (.int .i64 b) := block_cell bx 1 _ rfl
      have p2 : wr.cell? ⟨X, 2, none⟩ = some (.int .i64 f) := block_cell bx 2 _ rfl
      have p3 : wr.cell? ⟨X, 3, none⟩ = some (.int .i64 s) := block_cell bx 3 _ rfl
      have p4 : wr.cell? ⟨X, 4, none⟩ = some (.slice o1 L.length c1) := block_cell bx 4 _ rfl
      have p5 : wr.cell? ⟨X, 5, none⟩ = some (.slice (some ⟨bb, off, none⟩) g.length cg1) := block_cell bx 5 _ rfl
      have p6 : wr.cell? ⟨X, 6, none⟩ = some (.int .i64 (k : Int)) := block_cell bx 6 _ rfl
      have p7 : wr.cell? ⟨X, 7, none⟩ = some (.int .i64 st) := block_cell bx 7 _ rfl
      have Hs := hide (And.intro bx (And.intro inx (And.intro inp hB)))
      have Hc := hide hck
      clear bx inx inp hB hck
      go_wp2_with fail
      obtain ⟨bx, inx, inp, hB⟩ := Hs.out
      have hck := Hc.out
      clear Hs Hc p0 p1 p2 p3 p4 p5 p6 p7
      refine HH.out.mono ?_
      rintro e w5 ⟨rfl, hb5⟩
      clear HH
      have hb5a : Below wr.heap.size wr (w5.alloc (.cells #[.int .i64 sx, .int .i64 sy] 35)) := hb5.alloc hb5.size _
      have sb : (w5.alloc (.cells #[.int .i64 sx, .int .i64 sy] 35)).heap[w5.heap.size]? = some (.cells #[.int .i64 sx, .int .i64 sy] 35 (0, 0)) := World.alloc_heap_new w5 _
      have hsb : wr.heap.size ≤ w5.heap.size := hb5.size
      have hsa : w5.heap.size < (w5.alloc (.cells #[.int .i64 sx, .int .i64 sy] 35)).heap.size := by simp
      have bxa := (hb5a.block _ hXr).trans bx
      have ina := inx.step (Stp.of (lo := 0) (hi := 0) hb5a) (.inl (Nat.zero_le _))
      have inpa : InI w3.heap.size w4.heap.size (w5.alloc (.cells #[.int .i64 sx, .int .i64 sy] 35)) (.slice op hp.length cp) hp := inp.step (Stp.of (lo := 0) (hi := 0) hb5a) (.inl (Nat.zero_le _))
      have hBa := hB.trans (hb5a.mono hB.size)
      have g0 : (w5.alloc (.cells #[.int .i64 sx, .int .i64 sy] 35)).cell? ⟨bb, off + k * 2, none⟩ = some (.int .i64 sx) := (hb5a.cell (p := ⟨bb, off + k * 2, none⟩) hbb).trans hck.1
      have g1 : (w5.alloc (.cells #[.int .i64 sx, .int .i64 sy] 35)).cell? ⟨bb, off + k * 2 + 1, none⟩ = some (.int .i64 sy) := (hb5a.cell (p := ⟨bb, off + k * 2 + 1, none⟩) hbb).trans hck.2
      have s0 : (w5.alloc (.cells #[.int .i64 sx, .int .i64 sy] 35)).cell? ⟨w5.heap.size, 0, none⟩ = some (.int .i64 sx) := block_cell sb 0 _ rfl
      have s1 : (w5.alloc (.cells #[.int .i64 sx, .int .i64 sy] 35)).cell? ⟨w5.heap.size, 1, none⟩ = some (.int .i64 sy) := block_cell sb 1 _ rfl
      have p0 : (w5.alloc (.cells #[.int .i64 sx, .int .i64 sy] 35)).cell? ⟨X, 0, none⟩ = some (.int .i64 a) := block_cell bxa 0 _ rfl
      have p1 : (w5.alloc (.cells #[.int .i64 sx, .int .i64 sy] 35)).cell? ⟨X, 1, none⟩ = some (.int .i64 b) := block_cell bxa 1 _ rfl
      have p2 : (w5.alloc (.cells #[.int .i64 sx, .int .i64 sy] 35)).cell? ⟨X, 2, none⟩ = some (.int .i64 f) := block_cell bxa 2 _ rfl
      have p3 : (w5.alloc (.cells #[.int .i64 sx, .int .i64 sy] 35)).cell? ⟨X, 3, none⟩ = some (.int .i64 s) := block_cell bxa 3 _ rfl
      have p4 : (w5.alloc (.cells #[.int .i64 sx, .int .i64 sy] 35)).cell? ⟨X, 4, none⟩ = some (.slice o1 L.length c1) := block_cell bxa 4 _ rfl
      have p5 : (w5.alloc (.cells #[.int .i64 sx, .int .i64 sy] 35)).cell? ⟨X, 5, none⟩ = some (.slice (some ⟨bb, off, none⟩) g.length cg1) := block_cell bxa 5 _ rfl
      have p6 : (w5.alloc (.cells #[.int .i64 sx, .int .i64 sy] 35)).cell? ⟨X, 6, none⟩ = some (.int .i64 (k : Int)) := block_cell bxa 6 _ rfl
      have p7 : (w5.alloc (.cells #[.int .i64 sx, .int .i64 sy] 35)).cell? ⟨X, 7, none⟩ = some (.int .i64 st) := block_cell bxa 7 _ rfl
      have Hs := hide (And.intro bxa (And.intro ina (And.intro inpa hBa)))
      have hba := hb5a.size
      clear bxa ina inpa hBa bx inx inp hB hck sb hb5
      go_wp2
      generalize (w5.alloc (.cells #[.int .i64 sx, .int .i64 sy] 35)) = wa at *
      have HUk := hide (fun W h hc => implHunt_sh (crr a b f s (.slice o1 L.length c1) (.slice (some ⟨bb, off, none⟩) g.length cg1) (k : Int) st) ⟨a, b, f, s, L, g, (k : Int), st⟩ W h hc (HF.out k))
      rw [HUE.out k hk] at HUk
      obtain ⟨bxa, ina, inpa, hBa⟩ := Hs.out
      have kX : X < wa.heap.size := by omega
      have kS : w5.heap.size < wa.heap.size := hsa
      have kG : bb < wa.heap.size := by omega
      have HI := hide (And.intro ina inpa)
      have HBX := hide (And.intro bxa hBa)
      clear Hs ina inpa bxa hBa
      go_region_held3 (fun w' => w'.cell? ⟨X, 0, none⟩ = some (.int .i64 a) ∧ w'.cell? ⟨X, 1, none⟩ = some (.int .i64 b) ∧ w'.cell? ⟨X, 2, none⟩ = some (.int .i64 f) ∧ w'.cell? ⟨X, 3, none⟩ = some (.int .i64 s) ∧ w'.cell? ⟨X, 4, none⟩ = some (.slice o1 L.length c1) ∧ w'.cell? ⟨X, 5, none⟩ = some (.slice (some ⟨bb, off, none⟩) g.length cg1) ∧ w'.cell? ⟨X, 6, none⟩ = some (.int .i64 (k : Int)) ∧ w'.cell? ⟨X, 7, none⟩ = some (.int .i64 st) ∧ w'.cell? ⟨w5.heap.size, 0, none⟩ = some (.int .i64 sx) ∧ w'.cell? ⟨w5.heap.size, 1, none⟩ = some (.int .i64 sy) ∧ w'.cell? ⟨bb, off + k * 2, none⟩ = some (.int .i64 sx) ∧ w'.cell? ⟨bb, off + k * 2 + 1, none⟩ = some (.int .i64 sy)) (first | with_reducible exact ⟨n3_0, n3_1, n3_2, n3_3, n3_4, n3_5, n3_6, n3_7, n3_8, n3_9, n3_10, n3_11⟩ | with_reducible exact ⟨n2_0, n2_1, n2_2, n2_3, n2_4, n2_5, n2_6, n2_7, n2_8, n2_9, n2_10, n2_11⟩ | with_reducible exact ⟨n1_0, n1_1, n1_2, n1_3, n1_4, n1_5, n1_6, n1_7, n1_8, n1_9, n1_10, n1_11⟩ | with_reducible exact ⟨p0, p1, p2, p3, p4, p5, p6, p7, s0, s1, g0, g1⟩ | go_keep) (first | (go_at_call 10; have hpre : Below wa.heap.size wa wa.drew := (Below.drew (Below.refl _ _)); have hc_ := HUk.out wa.drew (((HI.out.1.rd).kept hpre (by omega)).le (by have := hpre.size; omega)) HI.out.1.cap; (with_reducible refine hc_.mono ?_); clear hc_; rintro e x0 ⟨vq, rfl, inq, hb⟩; have h1 : Below wa.heap.size wa x0 := hpre.trans hb; obtain ⟨oq, cq, rfl, rq⟩ := InL.rd inq; have n1_0 := (h1.cell (p := ⟨X, 0, none⟩) kX).trans p0; have n1_1 := (h1.cell (p := ⟨X, 1, none⟩) kX).trans p1; have n1_2 := (h1.cell (p := ⟨X, 2, none⟩) kX).trans p2; have n1_3 := (h1.cell (p := ⟨X, 3, none⟩) kX).trans p3; have n1_4 := (h1.cell (p := ⟨X, 4, none⟩) kX).trans p4; have n1_5 := (h1.cell (p := ⟨X, 5, none⟩) kX).trans p5; have n1_6 := (h1.cell (p := ⟨X, 6, none⟩) kX).trans p6; have n1_7 := (h1.cell (p := ⟨X, 7, none⟩) kX).trans p7; have n1_8 := (h1.cell (p := ⟨w5.heap.size, 0, none⟩) kS).trans s0; have n1_9 := (h1.cell (p := ⟨w5.heap.size, 1, none⟩) kS).trans s1; have n1_10 := (h1.cell (p := ⟨bb, off + k * 2, none⟩) kG).trans g0; have n1_11 := (h1.cell (p := ⟨bb, off + k * 2 + 1, none⟩) kG).trans g1; clear hb) | (go_at_call 12; have hz1 := h1.size; have hc_ := sameInts_any oq op cq cp hp x0 rq (RdI_of (InL.rd (HI.out.2.step (Stp.of (lo := 0) (hi := 0) h1) (.inl (Nat.zero_le _)))) (by omega)) hlp8; (with_reducible refine hc_.mono ?_); clear hc_; rintro e x1 ⟨rfl, hb⟩; have h2 : Below wa.heap.size wa x1 := h1.trans (hb.mono hz1); have n2_0 := (h2.cell (p := ⟨X, 0, none⟩) kX).trans p0; have n2_1 := (h2.cell (p := ⟨X, 1, none⟩) kX).trans p1; have n2_2 := (h2.cell (p := ⟨X, 2, none⟩) kX).trans p2; have n2_3 := (h2.cell (p := ⟨X, 3, none⟩) kX).trans p3; have n2_4 := (h2.cell (p := ⟨X, 4, none⟩) kX).trans p4; have n2_5 := (h2.cell (p := ⟨X, 5, none⟩) kX).trans p5; have n2_6 := (h2.cell (p := ⟨X, 6, none⟩) kX).trans p6; have n2_7 := (h2.cell (p := ⟨X, 7, none⟩) kX).trans p7; have n2_8 := (h2.cell (p := ⟨w5.heap.size, 0, none⟩) kS).trans s0; have n2_9 := (h2.cell (p := ⟨w5.heap.size, 1, none⟩) kS).trans s1; have n2_10 := (h2.cell (p := ⟨bb, off + k * 2, none⟩) kG).trans g0; have n2_11 := (h2.cell (p := ⟨bb, off + k * 2 + 1, none⟩) kG).trans g1; clear hb) | (go_at_call 13; have hz2 := h2.size; have hc_ := implSegOk_any sx sy x1; rw [hsk] at hc_; (with_reducible refine hc_.mono ?_); clear hc_; rintro e x2 ⟨rfl, hb⟩; have h3 : Below wa.heap.size wa x2 := h2.trans (hb.mono hz2); have n3_0 := (h3.cell (p := ⟨X, 0, none⟩) kX).trans p0; have n3_1 := (h3.cell (p := ⟨X, 1, none⟩) kX).trans p1; have n3_2 := (h3.cell (p := ⟨X, 2, none⟩) kX).trans p2; have n3_3 := (h3.cell (p := ⟨X, 3, none⟩) kX).trans p3; have n3_4 := (h3.cell (p := ⟨X, 4, none⟩) kX).trans p4; have n3_5 := (h3.cell (p := ⟨X, 5, none⟩) kX).trans p5; have n3_6 := (h3.cell (p := ⟨X, 6, none⟩) kX).trans p6; have n3_7 := (h3.cell (p := ⟨X, 7, none⟩) kX).trans p7; have n3_8 := (h3.cell (p := ⟨w5.heap.size, 0, none⟩) kS).trans s0; have n3_9 := (h3.cell (p := ⟨w5.heap.size, 1, none⟩) kS).trans s1; have n3_10 := (h3.cell (p := ⟨bb, off + k * 2, none⟩) kG).trans g0; have n3_11 := (h3.cell (p := ⟨bb, off + k * 2 + 1, none⟩) kG).trans g1; clear hb) | fail)
      all_goals (
        have hs2 := h3.size
        have bx2 := (h3.block _ kX).trans HBX.out.1
        have in2 := HI.out.1.step (Stp.of (lo := 0) (hi := 0) h3) (.inl (Nat.zero_le _))
        have inp2 : InI w3.heap.size w4.heap.size x2 (.slice op hp.length cp) hp := HI.out.2.step (Stp.of (lo := 0) (hi := 0) h3) (.inl (Nat.zero_le _))
        have hB2 := HBX.out.2.trans (h3.mono HBX.out.2.size)
        have HN := hide (implNext_sh _ ⟨a, b, f, s, L, g, (k : Int), st⟩ x2 (in2.rd.le (by omega)) in2.cap (HF.out k))
        have Hs := hide (And.intro bx2 (And.intro in2 (And.intro inp2 hB2)))
        clear bx2 in2 inp2 hB2 HBX HI HUk inq rq h1 h2 n1_0 n1_1 n1_2 n1_3 n1_4 n1_5 n1_6 n1_7 n1_8 n1_9 n1_10 n1_11 n2_0 n2_1 n2_2 n2_3 n2_4 n2_5 n2_6 n2_7 n2_8 n2_9 n2_10 n2_11 n3_8 n3_9 n3_10 n3_11 p0 p1 p2 p3 p4 p5 p6 p7 s0 s1 g0 g1
        have hXx : X < x2.heap.size := by omega
        have hwx : w4.heap.size ≤ x2.heap.size := by omega
        have hw3 : X < w3.heap.size := hs3
        by_cases hend : k + 1 = g.length
        · rw [HNE.out k hend] at HN
          dsimp only at HN
          have hke : (g.length : Int) - 1 = (k : Int) := by omega
          clear hend
          go_wp2_with fail
          refine HN.out.mono ?_
          rintro e x3 ⟨vy, rfl, iny, hb3⟩
          clear HN
          obtain ⟨yl, yg, rfl, ⟨oy, cy, rfl, _⟩, ⟨ogy, cgy, rfl, _⟩⟩ := iny.rd
          dsimp only
          obtain ⟨bx2, in2, inp2, hB2⟩ := Hs.out
          have hs3 : x2.heap.size ≤ x3.heap.size := hb3.size
          have h6 : Below x2.heap.size x2 (x3.alloc (.cells #[.int .i64 a, .int .i64 b, .int .i64 f, .int .i64 s, .slice oy L.length cy, .slice ogy g.length cgy, .int .i64 (k : Int), .int .i64 st] 29)) := hb3.alloc hb3.size _
          have bx6 := (h6.block _ (by omega)).trans bx2
          have by6 : (x3.alloc (.cells #[.int .i64 a, .int .i64 b, .int .i64 f, .int .i64 s, .slice oy L.length cy, .slice ogy g.length cgy, .int .i64 (k : Int), .int .i64 st] 29)).heap[x3.heap.size]? = some (.cells #[.int .i64 a, .int .i64 b, .int .i64 f, .int .i64 s, .slice oy L.length cy, .slice ogy g.length cgy, .int .i64 (k : Int), .int .i64 st] 29 (0, 0)) := World.alloc_heap_new x3 _
          have iny6 := iny.step (Stp.of (lo := 0) (hi := 0) ((Below.refl _ _).alloc (Nat.le_refl _) (.cells #[.int .i64 a, .int .i64 b, .int .i64 f, .int .i64 s, .slice oy L.length cy, .slice ogy g.length cgy, .int .i64 (k : Int), .int .i64 st] 29))) (.inl (Nat.zero_le _))
          have hB6 := hB2.trans (h6.mono hB2.size)
          have hz6 : x3.heap.size < (x3.alloc (.cells #[.int .i64 a, .int .i64 b, .int .i64 f, .int .i64 s, .slice oy L.length cy, .slice ogy g.length cgy, .int .i64 (k : Int), .int .i64 st] 29)).heap.size := by simp
          have p0 : (x3.alloc (.cells #[.int .i64 a, .int .i64 b, .int .i64 f, .int .i64 s, .slice oy L.length cy, .slice ogy g.length cgy, .int .i64 (k : Int), .int .i64 st] 29)).cell? ⟨X, 0, none⟩ = some (.int .i64 a) := block_cell bx6 0 _ rfl
          have p1 : (x3.alloc (.cells #[.int .i64 a, .int .i64 b, .int .i64 f, .int .i64 s, .slice oy L.length cy, .slice ogy g.length cgy, .int .i64 (k : Int), .int .i64 st] 29)).cell? ⟨X, 1, none⟩ = some (.int .i64 b) := block_cell bx6 1 _ rfl
          have p2 : (x3.alloc (.cells #[.int .i64 a, .int .i64 b, .int .i64 f, .int .i64 s, .slice oy L.length cy, .slice ogy g.length cgy, .int .i64 (k : Int), .int .i64 st] 29)).cell? ⟨X, 2, none⟩ = some (.int .i64 f) := block_cell bx6 2 _ rfl
          have p3 : (x3.alloc (.cells #[.int .i64 a, .int .i64 b, .int .i64 f, .int .i64 s, .slice oy L.length cy, .slice ogy g.length cgy, .int .i64 (k : Int), .int .i64 st] 29)).cell? ⟨X, 3, none⟩ = some (.int .i64 s) := block_cell bx6 3 _ rfl
          have p4 : (x3.alloc (.cells #[.int .i64 a, .int .i64 b, .int .i64 f, .int .i64 s, .slice oy L.length cy, .slice ogy g.length cgy, .int .i64 (k : Int), .int .i64 st] 29)).cell? ⟨X, 4, none⟩ = some (.slice o1 L.length c1) := block_cell bx6 4 _ rfl
          have p5 : (x3.alloc (.cells #[.int .i64 a, .int .i64 b, .int .i64 f, .int .i64 s, .slice oy L.length cy, .slice ogy g.length cgy, .int .i64 (k : Int), .int .i64 st] 29)).cell? ⟨X, 5, none⟩ = some (.slice (some ⟨bb, off, none⟩) g.length cg1) := block_cell bx6 5 _ rfl
          have p6 : (x3.alloc (.cells #[.int .i64 a, .int .i64 b, .int .i64 f, .int .i64 s, .slice oy L.length cy, .slice ogy g.length cgy, .int .i64 (k : Int), .int .i64 st] 29)).cell? ⟨X, 6, none⟩ = some (.int .i64 (k : Int)) := block_cell bx6 6 _ rfl
          have p7 : (x3.alloc (.cells #[.int .i64 a, .int .i64 b, .int .i64 f, .int .i64 s, .slice oy L.length cy, .slice ogy g.length cgy, .int .i64 (k : Int), .int .i64 st] 29)).cell? ⟨X, 7, none⟩ = some (.int .i64 st) := block_cell bx6 7 _ rfl
          have y0 : (x3.alloc (.cells #[.int .i64 a, .int .i64 b, .int .i64 f, .int .i64 s, .slice oy L.length cy, .slice ogy g.length cgy, .int .i64 (k : Int), .int .i64 st] 29)).cell? ⟨x3.heap.size, 0, none⟩ = some (.int .i64 a) := block_cell by6 0 _ rfl
          have y1 : (x3.alloc (.cells #[.int .i64 a, .int .i64 b, .int .i64 f, .int .i64 s, .slice oy L.length cy, .slice ogy g.length cgy, .int .i64 (k : Int), .int .i64 st] 29)).cell? ⟨x3.heap.size, 1, none⟩ = some (.int .i64 b) := block_cell by6 1 _ rfl
          have y2 : (x3.alloc (.cells #[.int .i64 a, .int .i64 b, .int .i64 f, .int .i64 s, .slice oy L.length cy, .slice ogy g.length cgy, .int .i64 (k : Int), .int .i64 st] 29)).cell? ⟨x3.heap.size, 2, none⟩ = some (.int .i64 f) := block_cell by6 2 _ rfl
          have y3 : (x3.alloc (.cells #[.int .i64 a, .int .i64 b, .int .i64 f, .int .i64 s, .slice oy L.length cy, .slice ogy g.length cgy, .int .i64 (k : Int), .int .i64 st] 29)).cell? ⟨x3.heap.size, 3, none⟩ = some (.int .i64 s) := block_cell by6 3 _ rfl
          have y4 : (x3.alloc (.cells #[.int .i64 a, .int .i64 b, .int .i64 f, .int .i64 s, .slice oy L.length cy, .slice ogy g.length cgy, .int .i64 (k : Int), .int .i64 st] 29)).cell? ⟨x3.heap.size, 4, none⟩ = some (.slice oy L.length cy) := block_cell by6 4 _ rfl
          have y5 : (x3.alloc (.cells #[.int .i64 a, .int .i64 b, .int .i64 f, .int .i64 s, .slice oy L.length cy, .slice ogy g.length cgy, .int .i64 (k : Int), .int .i64 st] 29)).cell? ⟨x3.heap.size, 5, none⟩ = some (.slice ogy g.length cgy) := block_cell by6 5 _ rfl
          have y6 : (x3.alloc (.cells #[.int .i64 a, .int .i64 b, .int .i64 f, .int .i64 s, .slice oy L.length cy, .slice ogy g.length cgy, .int .i64 (k : Int), .int .i64 st] 29)).cell? ⟨x3.heap.size, 6, none⟩ = some (.int .i64 (k : Int)) := block_cell by6 6 _ rfl
          have y7 : (x3.alloc (.cells #[.int .i64 a, .int .i64 b, .int .i64 f, .int .i64 s, .slice oy L.length cy, .slice ogy g.length cgy, .int .i64 (k : Int), .int .i64 st] 29)).cell? ⟨x3.heap.size, 7, none⟩ = some (.int .i64 st) := block_cell by6 7 _ rfl
          have in6 := in2.step (Stp.of (lo := 0) (hi := 0) h6) (.inl (Nat.zero_le _))
          have HSC := hide (sameCarrier_eq _ _ ⟨a, b, f, s, L, g, (k : Int), st⟩ (x3.alloc (.cells #[.int .i64 a, .int .i64 b, .int .i64 f, .int .i64 s, .slice oy L.length cy, .slice ogy g.length cgy, .int .i64 (k : Int), .int .i64 st] 29)) (in6.rd.le (by omega)) (iny6.rd.le (Nat.le_of_lt hz6)) in6.cap iny6.cap (HF.out k))
          have HB6 := hide hB6
          clear in6 iny6 iny hB6 bx6 by6 h6 hb3 bx2 in2 inp2 hB2 Hs
          go_wp2_with fail
          clear p0 p1 p2 p3 p4 p5 p6 p7 y0 y1 y2 y3 y4 y5 y6 y7
          generalize (x3.alloc (.cells #[.int .i64 a, .int .i64 b, .int .i64 f, .int .i64 s, .slice oy L.length cy, .slice ogy g.length cgy, .int .i64 (k : Int), .int .i64 st] 29)) = wz at *
          refine HSC.out.mono ?_
          rintro e x4 ⟨rfl, hb4⟩
          have HB7 := hide (HB6.out.trans (hb4.mono HB6.out.size))
          clear hb4 HSC HB6
          go_wp2_with fail
          refine (HW.out x4).mono ?_
          rintro e x5 ⟨rfl, hb5⟩
          have HB8 := hide (HB7.out.trans (hb5.mono HB7.out.size))
          clear hb5 HB7
          go_wp2
          go_ret
          exact ⟨rfl, HB8.out⟩
        · replace hend : k + 1 < g.length := by omega
          rw [HNO.out k hend] at HN
          dsimp only at HN
          have hon : k + 1 < g.length := hend
          clear hend
          go_wp2_with fail
          refine HN.out.mono ?_
          rintro e x3 ⟨vy, rfl, iny, hb3⟩
          clear HN
          obtain ⟨yl, yg, rfl, ⟨oy, cy, rfl, _⟩, ⟨ogy, cgy, rfl, _⟩⟩ := iny.rd
          dsimp only
          obtain ⟨bx2, in2, inp2, hB2⟩ := Hs.out
          have hs3 : x2.heap.size ≤ x3.heap.size := hb3.size
          have h6 : Below x2.heap.size x2 (x3.alloc (.cells #[.int .i64 a, .int .i64 b, .int .i64 f, .int .i64 s, .slice oy L.length cy, .slice ogy g.length cgy, .int .i64 ((k : Int) + 1), .int .i64 st] 29)) := hb3.alloc hb3.size _
          have bx6 := (h6.block _ (by omega)).trans bx2
          have by6 : (x3.alloc (.cells #[.int .i64 a, .int .i64 b, .int .i64 f, .int .i64 s, .slice oy L.length cy, .slice ogy g.length cgy, .int .i64 ((k : Int) + 1), .int .i64 st] 29)).heap[x3.heap.size]? = some (.cells #[.int .i64 a, .int .i64 b, .int .i64 f, .int .i64 s, .slice oy L.length cy, .slice ogy g.length cgy, .int .i64 ((k : Int) + 1), .int .i64 st] 29 (0, 0)) := World.alloc_heap_new x3 _
          have iny6 := iny.step (Stp.of (lo := 0) (hi := 0) ((Below.refl _ _).alloc (Nat.le_refl _) (.cells #[.int .i64 a, .int .i64 b, .int .i64 f, .int .i64 s, .slice oy L.length cy, .slice ogy g.length cgy, .int .i64 ((k : Int) + 1), .int .i64 st] 29))) (.inl (Nat.zero_le _))
          have hB6 := hB2.trans (h6.mono hB2.size)
          have hz6 : x3.heap.size < (x3.alloc (.cells #[.int .i64 a, .int .i64 b, .int .i64 f, .int .i64 s, .slice oy L.length cy, .slice ogy g.length cgy, .int .i64 ((k : Int) + 1), .int .i64 st] 29)).heap.size := by simp
          have p0 : (x3.alloc (.cells #[.int .i64 a, .int .i64 b, .int .i64 f, .int .i64 s, .slice oy L.length cy, .slice ogy g.length cgy, .int .i64 ((k : Int) + 1), .int .i64 st] 29)).cell? ⟨X, 0, none⟩ = some (.int .i64 a) := block_cell bx6 0 _ rfl
          have p1 : (x3.alloc (.cells #[.int .i64 a, .int .i64 b, .int .i64 f, .int .i64 s, .slice oy L.length cy, .slice ogy g.length cgy, .int .i64 ((k : Int) + 1), .int .i64 st] 29)).cell? ⟨X, 1, none⟩ = some (.int .i64 b) := block_cell bx6 1 _ rfl
          have p2 : (x3.alloc (.cells #[.int .i64 a, .int .i64 b, .int .i64 f, .int .i64 s, .slice oy L.length cy, .slice ogy g.length cgy, .int .i64 ((k : Int) + 1), .int .i64 st] 29)).cell? ⟨X, 2, none⟩ = some (.int .i64 f) := block_cell bx6 2 _ rfl
          have p3 : (x3.alloc (.cells #[.int .i64 a, .int .i64 b, .int .i64 f, .int .i64 s, .slice oy L.length cy, .slice ogy g.length cgy, .int .i64 ((k : Int) + 1), .int .i64 st] 29)).cell? ⟨X, 3, none⟩ = some (.int .i64 s) := block_cell bx6 3 _ rfl
          have p4 : (x3.alloc (.cells #[.int .i64 a, .int .i64 b, .int .i64 f, .int .i64 s, .slice oy L.length cy, .slice ogy g.length cgy, .int .i64 ((k : Int) + 1), .int .i64 st] 29)).cell? ⟨X, 4, none⟩ = some (.slice o1 L.length c1) := block_cell bx6 4 _ rfl
          have p5 : (x3.alloc (.cells #[.int .i64 a, .int .i64 b, .int .i64 f, .int .i64 s, .slice oy L.length cy, .slice ogy g.length cgy, .int .i64 ((k : Int) + 1), .int .i64 st] 29)).cell? ⟨X, 5, none⟩ = some (.slice (some ⟨bb, off, none⟩) g.length cg1) := block_cell bx6 5 _ rfl
          have p6 : (x3.alloc (.cells #[.int .i64 a, .int .i64 b, .int .i64 f, .int .i64 s, .slice oy L.length cy, .slice ogy g.length cgy, .int .i64 ((k : Int) + 1), .int .i64 st] 29)).cell? ⟨X, 6, none⟩ = some (.int .i64 (k : Int)) := block_cell bx6 6 _ rfl
          have p7 : (x3.alloc (.cells #[.int .i64 a, .int .i64 b, .int .i64 f, .int .i64 s, .slice oy L.length cy, .slice ogy g.length cgy, .int .i64 ((k : Int) + 1), .int .i64 st] 29)).cell? ⟨X, 7, none⟩ = some (.int .i64 st) := block_cell bx6 7 _ rfl
          have y0 : (x3.alloc (.cells #[.int .i64 a, .int .i64 b, .int .i64 f, .int .i64 s, .slice oy L.length cy, .slice ogy g.length cgy, .int .i64 ((k : Int) + 1), .int .i64 st] 29)).cell? ⟨x3.heap.size, 0, none⟩ = some (.int .i64 a) := block_cell by6 0 _ rfl
          have y1 : (x3.alloc (.cells #[.int .i64 a, .int .i64 b, .int .i64 f, .int .i64 s, .slice oy L.length cy, .slice ogy g.length cgy, .int .i64 ((k : Int) + 1), .int .i64 st] 29)).cell? ⟨x3.heap.size, 1, none⟩ = some (.int .i64 b) := block_cell by6 1 _ rfl
          have y2 : (x3.alloc (.cells #[.int .i64 a, .int .i64 b, .int .i64 f, .int .i64 s, .slice oy L.length cy, .slice ogy g.length cgy, .int .i64 ((k : Int) + 1), .int .i64 st] 29)).cell? ⟨x3.heap.size, 2, none⟩ = some (.int .i64 f) := block_cell by6 2 _ rfl
          have y3 : (x3.alloc (.cells #[.int .i64 a, .int .i64 b, .int .i64 f, .int .i64 s, .slice oy L.length cy, .slice ogy g.length cgy, .int .i64 ((k : Int) + 1), .int .i64 st] 29)).cell? ⟨x3.heap.size, 3, none⟩ = some (.int .i64 s) := block_cell by6 3 _ rfl
          have y4 : (x3.alloc (.cells #[.int .i64 a, .int .i64 b, .int .i64 f, .int .i64 s, .slice oy L.length cy, .slice ogy g.length cgy, .int .i64 ((k : Int) + 1), .int .i64 st] 29)).cell? ⟨x3.heap.size, 4, none⟩ = some (.slice oy L.length cy) := block_cell by6 4 _ rfl
          have y5 : (x3.alloc (.cells #[.int .i64 a, .int .i64 b, .int .i64 f, .int .i64 s, .slice oy L.length cy, .slice ogy g.length cgy, .int .i64 ((k : Int) + 1), .int .i64 st] 29)).cell? ⟨x3.heap.size, 5, none⟩ = some (.slice ogy g.length cgy) := block_cell by6 5 _ rfl
          have y6 : (x3.alloc (.cells #[.int .i64 a, .int .i64 b, .int .i64 f, .int .i64 s, .slice oy L.length cy, .slice ogy g.length cgy, .int .i64 ((k : Int) + 1), .int .i64 st] 29)).cell? ⟨x3.heap.size, 6, none⟩ = some (.int .i64 ((k : Int) + 1)) := block_cell by6 6 _ rfl
          have y7 : (x3.alloc (.cells #[.int .i64 a, .int .i64 b, .int .i64 f, .int .i64 s, .slice oy L.length cy, .slice ogy g.length cgy, .int .i64 ((k : Int) + 1), .int .i64 st] 29)).cell? ⟨x3.heap.size, 7, none⟩ = some (.int .i64 st) := block_cell by6 7 _ rfl
          have q0 : (x3.alloc (.cells #[.int .i64 a, .int .i64 b, .int .i64 f, .int .i64 s, .slice oy L.length cy, .slice ogy g.length cgy, .int .i64 ((k : Int) + 1), .int .i64 st] 29)).frozen? ⟨X, 0, none⟩ = false := block_frozen bx6 0
          have q1 : (x3.alloc (.cells #[.int .i64 a, .int .i64 b, .int .i64 f, .int .i64 s, .slice oy L.length cy, .slice ogy g.length cgy, .int .i64 ((k : Int) + 1), .int .i64 st] 29)).frozen? ⟨X, 1, none⟩ = false := block_frozen bx6 1
          have q2 : (x3.alloc (.cells #[.int .i64 a, .int .i64 b, .int .i64 f, .int .i64 s, .slice oy L.length cy, .slice ogy g.length cgy, .int .i64 ((k : Int) + 1), .int .i64 st] 29)).frozen? ⟨X, 2, none⟩ = false := block_frozen bx6 2
          have q3 : (x3.alloc (.cells #[.int .i64 a, .int .i64 b, .int .i64 f, .int .i64 s, .slice oy L.length cy, .slice ogy g.length cgy, .int .i64 ((k : Int) + 1), .int .i64 st] 29)).frozen? ⟨X, 3, none⟩ = false := block_frozen bx6 3
          have q4 : (x3.alloc (.cells #[.int .i64 a, .int .i64 b, .int .i64 f, .int .i64 s, .slice oy L.length cy, .slice ogy g.length cgy, .int .i64 ((k : Int) + 1), .int .i64 st] 29)).frozen? ⟨X, 4, none⟩ = false := block_frozen bx6 4
          have q5 : (x3.alloc (.cells #[.int .i64 a, .int .i64 b, .int .i64 f, .int .i64 s, .slice oy L.length cy, .slice ogy g.length cgy, .int .i64 ((k : Int) + 1), .int .i64 st] 29)).frozen? ⟨X, 5, none⟩ = false := block_frozen bx6 5
          have q6 : (x3.alloc (.cells #[.int .i64 a, .int .i64 b, .int .i64 f, .int .i64 s, .slice oy L.length cy, .slice ogy g.length cgy, .int .i64 ((k : Int) + 1), .int .i64 st] 29)).frozen? ⟨X, 6, none⟩ = false := block_frozen bx6 6
          have q7 : (x3.alloc (.cells #[.int .i64 a, .int .i64 b, .int .i64 f, .int .i64 s, .slice oy L.length cy, .slice ogy g.length cgy, .int .i64 ((k : Int) + 1), .int .i64 st] 29)).frozen? ⟨X, 7, none⟩ = false := block_frozen bx6 7
          have SP := stp8 (x3.alloc (.cells #[.int .i64 a, .int .i64 b, .int .i64 f, .int .i64 s, .slice oy L.length cy, .slice ogy g.length cgy, .int .i64 ((k : Int) + 1), .int .i64 st] 29)) X (.int .i64 a) (.int .i64 b) (.int .i64 f) (.int .i64 s) (.slice oy L.length cy) (.slice ogy g.length cgy) (.int .i64 ((k : Int) + 1)) (.int .i64 st)
          have RB := hide (set8 (d0 := .int .i64 a) (d1 := .int .i64 b) (d2 := .int .i64 f) (d3 := .int .i64 s) (d4 := .slice oy L.length cy) (d5 := .slice ogy g.length cgy) (d6 := .int .i64 ((k : Int) + 1)) (d7 := .int .i64 st) bx6)
          have RI := hide (iny6.step SP (.inl (by omega)))
          have inp6 : InI w3.heap.size w4.heap.size (x3.alloc (.cells #[.int .i64 a, .int .i64 b, .int .i64 f, .int .i64 s, .slice oy L.length cy, .slice ogy g.length cgy, .int .i64 ((k : Int) + 1), .int .i64 st] 29)) (.slice op hp.length cp) hp := inp2.step (Stp.of (lo := 0) (hi := 0) h6) (.inl (Nat.zero_le _))
          have RP : Hid (InI w3.heap.size w4.heap.size (((((((((x3.alloc (.cells #[.int .i64 a, .int .i64 b, .int .i64 f, .int .i64 s, .slice oy L.length cy, .slice ogy g.length cgy, .int .i64 ((k : Int) + 1), .int .i64 st] 29)).setCell ⟨X, 0, none⟩ (.int .i64 a)).setCell ⟨X, 1, none⟩ (.int .i64 b)).setCell ⟨X, 2, none⟩ (.int .i64 f)).setCell ⟨X, 3, none⟩ (.int .i64 s)).setCell ⟨X, 4, none⟩ (.slice oy L.length cy)).setCell ⟨X, 5, none⟩ (.slice ogy g.length cgy)).setCell ⟨X, 6, none⟩ (.int .i64 ((k : Int) + 1))).setCell ⟨X, 7, none⟩ (.int .i64 st)) (.slice op hp.length cp) hp) := inp6.step SP (.inl (by omega))
          have RS := hide (And.intro SP.size (hB6.trans (SP.below hwX (by omega))))
          clear SP iny6 iny hB6 bx6 by6 h6 hb3 bx2 in2 inp2 inp6 hB2 Hs
          go_wp2
          go_roundw
          case rel =>
            refine ⟨k + 1, oy, ogy, cy, cgy, x2.heap.size, x3.heap.size, hon, by go_num, ?_, ?_, ?_, .inr (by omega), RP.out, ?_, RS.out.2⟩
            · rw [show ((k + 1 : Nat) : Int) = (k : Int) + 1 by omega]; exact RB.out
            · rw [show ((k + 1 : Nat) : Int) = (k : Int) + 1 by omega]; exact RI.out
            · exact Nat.le_trans (Nat.le_of_lt hz6) RS.out.1
            · exact Nat.le_trans (by omega) RS.out.1
          case measure => simp [intOf]; omega)

end Go.Proofs.Ytoeoiljddcjphaa
