/- The model's CarrierOk: a plain function, and the contract. -/
import Derived.Test.YteffhdcankkfkaaGreatQListed20
import Derived.Test.YteffhdcankkfkaaGreatQListed13
import Derived.Test.YteffhdcankkfkaaGreatQListed04
namespace Go.Proofs.YteffhdcankkfkaaGreat
open Go.ChangeShapes Go.WideShapes Go.ChangeAt Go.RowKit Go.Joins
set_option linter.unusedVariables false
set_option linter.unusedSimpArgs false
set_option maxRecDepth 100000
set_option maxHeartbeats 40000000
def Q1H (f : Int) : Bool := bits .and .i64 f 3 == 1
def Q1d (op : Bool) : Int -> List (Int × Int) -> Bool
  | _, [] =>true
  | h, p :: l =>Q1s p.1 p.2 && !(p.2 == 1 && !op) && !(decide (p.2 < h)) && Q1d op p.2 l
def QeA (a b f s : Int) (n m : Nat) (pl st : Int) : Bool := Q0l a b f s n && decide (1 <= (m : Int)) && decide ((m : Int) <= 24) && decide (0 <= pl) && decide (pl < (m : Int)) && decide (0 <= st) && decide (st <= 100000)
def Q19 (a b f s : Int) (n : Nat) (g : List (Int × Int)) (pl st : Int) : Bool := QeA a b f s n g.length pl st && Q1d (Q1H f) 0 g
theorem Q6z {a b f s : Int} {n m : Nat} {pl st : Int} : QeA a b f s n m pl st = true ↔ (Q0l a b f s n = true /\ 1 <= (m : Int) /\ (m : Int) <= 24 /\ 0 <= pl /\ pl < (m : Int) /\ 0 <= st /\ st <= 100000 /\ True) := by simp[QeA, and_assoc]
theorem Q0w {a b f s : Int} {n : Nat} {g : List (Int × Int)} {pl st : Int} (h : ¬ (Q0l a b f s n = true /\ 1 <= (g.length : Int) /\ (g.length : Int) <= 24 /\ 0 <= pl /\ pl < (g.length : Int) /\ 0 <= st /\ st <= 100000 /\ True)) : false = Q19 a b f s n g pl st := by
  have : QeA a b f s n g.length pl st = false := by rw[Bool.eq_false_iff]; exact fun q =>h (Q6z.1 q)
  simp[Q19, this]
theorem Q42 {a b f s : Int} {n : Nat} {g : List (Int × Int)} {pl st : Int} (h : QeA a b f s n g.length pl st = true) : Q1d (Q1H f) 0 g = Q19 a b f s n g pl st := by simp[Q19, h]
def boxC (k : Nat) (a b f s : Int) (v g : Value) (pl st : Int) (w : World) : Prop :=
  w.cell? ⟨k, 0, none⟩ = some (.int .i64 a) /\ w.cell? ⟨k, 1, none⟩ = some (.int .i64 b) /\ w.cell? ⟨k, 2, none⟩ = some (.int .i64 f) /\ w.cell? ⟨k, 3, none⟩ = some (.int .i64 s) /\ w.cell? ⟨k, 4, none⟩ = some v /\
  w.cell? ⟨k, 5, none⟩ = some g /\ w.cell? ⟨k, 6, none⟩ = some (.int .i64 pl) /\ w.cell? ⟨k, 7, none⟩ = some (.int .i64 st)
theorem boxC.kept {k : Nat} {a b f s : Int} {v g : Value} {pl st : Int} {w i : World} {B : Nat} (h : boxC k a b f s v g pl st w) (c : Below B w i) (d : k < B) : boxC k a b f s v g pl st i :=
  ⟨(c.cell (p := ⟨k, 0, none⟩) d).trans h.1, (c.cell (p := ⟨k, 1, none⟩) d).trans h.2.1, (c.cell (p := ⟨k, 2, none⟩) d).trans h.2.2.1, (c.cell (p := ⟨k, 3, none⟩) d).trans h.2.2.2.1, (c.cell (p := ⟨k, 4, none⟩) d).trans h.2.2.2.2.1,
   (c.cell (p := ⟨k, 5, none⟩) d).trans h.2.2.2.2.2.1, (c.cell (p := ⟨k, 6, none⟩) d).trans h.2.2.2.2.2.2.1, (c.cell (p := ⟨k, 7, none⟩) d).trans h.2.2.2.2.2.2.2⟩
theorem Q9d (w : World) (a b f s : Int) (v g : Value) (pl st : Int) (e : TypeId) : boxC w.heap.size a b f s v g pl st (w.alloc (.cells #[.int .i64 a, .int .i64 b, .int .i64 f, .int .i64 s, v, g, .int .i64 pl, .int .i64 st] e)) := by
  unfold boxC; simp
theorem Q7a (a b f s : Int) (o : Option Addr) (len cap : Nat) (w : World) :
    Calls Tryz.prog 121 #[pkt a b f s (.slice o len cap)] w fun e d =>e = .returned (.bool (Q1H f)) /\ Below w.heap.size w d := by
  have c : Below w.heap.size w w := KBq;go_enter Tryz.func121, Tryz.ntmps121;go_wp2;go_ret;exact⟨rfl, by(repeat (first | with_reducible (first|exact c|exact KBq|refine KHq ?_|refine below_drewN ?_ _|refine KOq ?_ ?_ _|refine KNq ?_ ?_ _) | (focus (simp; first | done | omega)) | omega))⟩
def Q7w (g : List (Int × Int)) (k : Nat) : Int := if k = 0 then 0 else(g.getD (k - 1) (0, 0)).2
theorem Qbp (a : Bool) (g : List (Int × Int)) (k : Nat) (h : k < g.length) : Q1d a (Q7w g k) (g.drop k) = (Q1s (g.getD k (0, 0)).1 (g.getD k (0, 0)).2 && !((g.getD k (0, 0)).2 == 1 && !a) && !(decide ((g.getD k (0, 0)).2 < Q7w g k)) && Q1d a (Q7w g (k + 1)) (g.drop (k + 1))) := by
  rw[List.drop_eq_getElem_cons h]
  have e : g.getD k (0, 0) = g[k] := by simp[h]
  rw[e];simp[Q1d, Q7w, e, h]
theorem QcE (op : Bool) (g : List (Int × Int)) : Q1d op (Q7w g g.length) (g.drop g.length) = true := by simp[Q1d]
theorem Q3S {A B C X R : Bool} (h : R = (A && B && C && X)) (h1 : A = true) (h2 : B = true) (h3 : C = true) : R = X := by rw[h, h1, h2, h3]; rfl
theorem Q3L {A B C X R : Bool} (h : R = (A && B && C && X)) (h1 : A = false \/ B = false \/ C = false) : R = false := by rw[h]; rcases h1 with h | h | h <;> rw[h] <;> simp
theorem Q4Z (a b f s : Int) (o N : Option Addr) (len cap U : Nat) (g : List (Int × Int)) (pl st : Int) (w : World) (hl : len <= maxLen) (hG : RdG w N g) (h1 : Q0l a b f s len = true) (h2 : 1 <= (g.length : Int)) (h3 : (g.length : Int) <= 24) (h4 : 0 <= pl) (h5 : pl < (g.length : Int)) (h6 : 0 <= st) (h7 : st <= 100000) :
    Calls Tryz.prog 129 #[crr a b f s (.slice o len cap) (.slice N g.length U) pl st] w fun e w' =>e = .returned (.bool (Q1d (Q1H f) 0 g)) /\ Below w.heap.size w w' := by
  have hp := fun w =>Q3e a b f s o len cap w hl
  rw[h1]at hp;have O := Q9d w a b f s (.slice o len cap) (.slice N g.length U) pl st 111
  have hz : w.heap.size < (w.alloc (.cells #[.int .i64 a, .int .i64 b, .int .i64 f, .int .i64 s, .slice o len cap, .slice N g.length U, .int .i64 pl, .int .i64 st] 111)).heap.size := by simp
  have X : Below w.heap.size w (w.alloc (.cells #[.int .i64 a, .int .i64 b, .int .i64 f, .int .i64 s, .slice o len cap, .slice N g.length U, .int .i64 pl, .int .i64 st] 111)) := KBq.alloc (Kaq _) _
  have af : ¬ ((g.length : Int) < 1) := by omega
  have ag : ¬ ((g.length : Int) <= pl) := by omega
  have ah : ¬ (24 < (g.length : Int)) := by omega
  go_enter Tryz.func129, Tryz.ntmps129;go_wp2_with fail;generalize (w.alloc (.cells #[.int .i64 a, .int .i64 b, .int .i64 f, .int .i64 s, .slice o len cap, .slice N g.length U, .int .i64 pl, .int .i64 st] 111)) = w0 at *;refine(hp _).mono ?_;rintro e w1 ⟨rfl, F⟩;replace O := O.kept F hz;have H : w.heap.size < w1.heap.size := Kbq hz F.size;have J : Below w.heap.size w w1 := X.trans (F.mono (KIq hz));have V := hG.kept J;clear X F hG hp hz;have I := O;obtain⟨x0, x1, x2, x3, x4, x5, x6, x7⟩ := I;go_wp2
  go_loopw [3] (fun i wr => ∃ k : Nat, k <= g.length /\ i = .int .i64 k /\ Q1d (Q1H f) 0 g = Q1d (Q1H f) (Q7w g k) (g.drop k) /\ Below w1.heap.size w1 wr)
    (fun i _ =>g.length - (intOf i).toNat)
  case atStart =>exact⟨0, Kcq _, rfl, by simp[Q7w], KBq⟩
  case round =>
    obtain⟨k, hk, rfl, B, D⟩ := hrel;have P := O.kept D H;have Z := D.size;have L : Below w.heap.size w wr := J.trans (D.mono (KIq H));have ac := V.kept D;clear O x0 x1 x2 x3 x4 x5 x6 x7 V;have I := P;obtain⟨x0, x1, x2, x3, x4, x5, x6, x7⟩ := I
    by_cases hlt : k < g.length
    · rw[Qbp _ g k hlt]at B
      rcases ac with ab | ⟨bb, ad, rfl, G, v⟩
      · subst ab; simp at hlt
      have Y := v k hlt
      have p : 0 < k -> wr.cell? ⟨bb, ad + (k - 1) * 2 + 1, none⟩ = some (.int .i64 (Q7w g k)) := fun h =>by
        have := (v (k - 1) (by omega)).2
        simpa[Q7w, Nat.ne_of_gt h]using this
      clear v;obtain⟨x, y, M⟩ : ∃ x y, g.getD k (0, 0) = (x, y) := ⟨_, _, rfl⟩;rw[M]at Y B;dsimp only at Y B
      have i1 : (0 : Int) <= (k : Int) := by omega
      have i2 : (k : Int) < (g.length : Int) := by omega
      generalize hzz : Q7w g k = z at *;generalize hq : Q1H f = op at *
      have q := fun w =>Q8o x y w
      have r := fun w =>Q7a a b f s o len cap w
      rw[hq]at r;have c := Q00 B;have E : w.heap.size < wr.heap.size := Kbq H Z;have u := Q00 L;have t := Q00 D;have ae := Q00 M;have G0 := Grown.cell x0 E;have G1 := Grown.cell x1 E;have G2 := Grown.cell x2 E;have G3 := Grown.cell x3 E;have G4 := Grown.cell x4 E;have G5 := Grown.cell x5 E;have Gx := Grown.cell Y.1 G;have Gy := Grown.cell Y.2 G;clear B P x1 x2 x3 x4 x6 x7 Y L D J Z M H
      by_cases c1 : Q1s x y = true
      · rw[c1]at q
        have ai := (Q7M.1 c1)
        by_cases c2 : y = 1
        · subst c2
          cases op with
          | false =>
            have d := Q00 (hq ▸ Q3L c.out (.inr (.inl (by simp))) : Q1d (Q1H f) 0 g = false);clear c p hzz;go_wp2
            (refine Q0b (by kernel_rfl) (by kernel_rfl) ?_; intro n; (repeat (go_big_quiet_step ((first | (go_at_call 180; exact Q0r _ (q _)) | (go_at_call 121; exact Q0r _ (r _)))))); (with_reducible refine wpQuiet_nil ?_); intro _ m; obtain⟨C, l⟩ := m; subst l)
            go_wp2;go_ret;exact⟨Q03 d.out.symm, u.out.trans (C.b.mono u.out.size)⟩
          | true =>
            rcases Nat.eq_zero_or_pos k with A | A
            · subst A
              have d := Q00 (Q3S c.out c1 (by simp) (by rw[show z = 0 from hzz.symm]; simp <;> omega));simp only[Nat.zero_mul, Nat.add_zero]at Gx Gy;clear c p hzz;go_wp2
              (refine Q0b (by kernel_rfl) (by kernel_rfl) ?_; intro n; (repeat (go_big_quiet_step ((first | (go_at_call 180; exact Q0r _ (q _)) | (go_at_call 121; exact Q0r _ (r _)))))); (with_reducible refine wpQuiet_nil ?_); intro _ m; obtain⟨C, l⟩ := m; subst l)
              go_wp2;go_roundw
              case rel =>exact⟨0 + 1, by omega, by go_num, d.out, t.out.trans (C.b.mono t.out.size)⟩
              case measure =>simp[intOf]; omega
            · obtain⟨j, rfl⟩ : ∃ j, k = j + 1 := ⟨k - 1, by omega⟩
              have Gz := Grown.cell (p A) G;simp only[Nat.add_sub_cancel]at Gz
              have i3 : (j : Int) < (g.length : Int) := by omega
              have i4 : 0 < (j : Int) + 1 := by omega
              by_cases c4 : 1 < z
              · have d := Q00 (hq ▸ Q3L c.out (.inr (.inr (by simp[c4]))) : Q1d (Q1H f) 0 g = false)
                clear c p hzz;go_wp2
                (refine Q0b (by kernel_rfl) (by kernel_rfl) ?_; intro n; (repeat (go_big_quiet_step ((first | (go_at_call 180; exact Q0r _ (q _)) | (go_at_call 121; exact Q0r _ (r _)))))); (with_reducible refine wpQuiet_nil ?_); intro _ m; obtain⟨C, l⟩ := m; subst l)
                go_wp2;go_ret;exact⟨Q03 d.out.symm, u.out.trans (C.b.mono u.out.size)⟩
              · have aa : decide (1 < z) = false := decide_eq_false c4
                have d := Q00 (Q3S c.out c1 (by simp) (by simp <;> omega));clear c p hzz;go_wp2
                (refine Q0b (by kernel_rfl) (by kernel_rfl) ?_; intro n; (repeat (go_big_quiet_step ((first | (go_at_call 180; exact Q0r _ (q _)) | (go_at_call 121; exact Q0r _ (r _)))))); (with_reducible refine wpQuiet_nil ?_); intro _ m; obtain⟨C, l⟩ := m; subst l)
                go_wp2;go_roundw
                case rel =>exact⟨j + 1 + 1, by omega, by go_num, d.out, t.out.trans (C.b.mono t.out.size)⟩
                case measure =>simp[intOf]; omega
        · have T : (y == 1) = false := by simp[c2]
          rcases Nat.eq_zero_or_pos k with A | A
          · subst A
            have d := Q00 (Q3S c.out c1 (by simp[T]) (by rw[show z = 0 from hzz.symm]; simp <;> omega));simp only[Nat.zero_mul, Nat.add_zero]at Gx Gy;clear c p hzz;go_wp2
            (refine Q0b (by kernel_rfl) (by kernel_rfl) ?_; intro n; (repeat (go_big_quiet_step ((first | (go_at_call 180; exact Q0r _ (q _)) | (go_at_call 121; exact Q0r _ (r _)))))); (with_reducible refine wpQuiet_nil ?_); intro _ m; obtain⟨C, l⟩ := m; subst l)
            go_wp2;go_roundw
            case rel =>exact⟨0 + 1, by omega, by go_num, d.out, t.out.trans (C.b.mono t.out.size)⟩
            case measure =>simp[intOf]; omega
          · obtain⟨j, rfl⟩ : ∃ j, k = j + 1 := ⟨k - 1, by omega⟩
            have Gz := Grown.cell (p A) G;simp only[Nat.add_sub_cancel]at Gz
            have i3 : (j : Int) < (g.length : Int) := by omega
            have i4 : 0 < (j : Int) + 1 := by omega
            by_cases c4 : y < z
            · have d := Q00 (hq ▸ Q3L c.out (.inr (.inr (by simp[c4]))) : Q1d (Q1H f) 0 g = false)
              clear c p hzz;go_wp2
              (refine Q0b (by kernel_rfl) (by kernel_rfl) ?_; intro n; (repeat (go_big_quiet_step ((first | (go_at_call 180; exact Q0r _ (q _)) | (go_at_call 121; exact Q0r _ (r _)))))); (with_reducible refine wpQuiet_nil ?_); intro _ m; obtain⟨C, l⟩ := m; subst l)
              go_wp2;go_ret;exact⟨Q03 d.out.symm, u.out.trans (C.b.mono u.out.size)⟩
            · have aa : decide (y < z) = false := decide_eq_false c4
              have d := Q00 (Q3S c.out c1 (by simp[T]) (by simp <;> omega));clear c p hzz;go_wp2
              (refine Q0b (by kernel_rfl) (by kernel_rfl) ?_; intro n; (repeat (go_big_quiet_step ((first | (go_at_call 180; exact Q0r _ (q _)) | (go_at_call 121; exact Q0r _ (r _)))))); (with_reducible refine wpQuiet_nil ?_); intro _ m; obtain⟨C, l⟩ := m; subst l)
              go_wp2;go_roundw
              case rel =>exact⟨j + 1 + 1, by omega, by go_num, d.out, t.out.trans (C.b.mono t.out.size)⟩
              case measure =>simp[intOf]; omega
      · have R : Q1s x y = false := by simpa using c1
        rw[R]at q;have d := Q00 (hq ▸ Q3L c.out (.inl R) : Q1d (Q1H f) 0 g = false);clear c p hzz;go_wp2
        (refine Q0b (by kernel_rfl) (by kernel_rfl) ?_; intro n; (repeat (go_big_quiet_step ((first | (go_at_call 180; exact Q0r _ (q _)) | (go_at_call 121; exact Q0r _ (r _)))))); (with_reducible refine wpQuiet_nil ?_); intro _ m; obtain⟨C, l⟩ := m; subst l)
        go_wp2;go_ret;exact⟨Q03 d.out.symm, u.out.trans (C.b.mono u.out.size)⟩
    · have e : k = g.length := by omega
      subst e
      have HE : Hid (true = Q1d (Q1H f) 0 g) := by rw[QcE]at B; exact B.symm
      go_wp2;go_ret;exact⟨Q03 HE.out, L⟩
theorem Q5p (a b f s : Int) (o p : Option Addr) (len cap r : Nat) (g : List (Int × Int)) (pl st : Int) (w : World) (G : len <= maxLen) (F : g.length <= maxLen) (t : RdG w p g) :
    Calls Tryz.prog 129 #[crr a b f s (.slice o len cap) (.slice p g.length r) pl st] w fun e H =>e = .returned (.bool (Q19 a b f s len g pl st)) /\ Below w.heap.size w H := by
  have E := F;unfold maxLen at E
  have h := fun w =>Q3e a b f s o len cap w G
  have l := Q9d w a b f s (.slice o len cap) (.slice p g.length r) pl st 111
  have k : w.heap.size < (w.alloc (.cells #[.int .i64 a, .int .i64 b, .int .i64 f, .int .i64 s, .slice o len cap, .slice p g.length r, .int .i64 pl, .int .i64 st] 111)).heap.size := by simp
  have d : Below w.heap.size w (w.alloc (.cells #[.int .i64 a, .int .i64 b, .int .i64 f, .int .i64 s, .slice o len cap, .slice p g.length r, .int .i64 pl, .int .i64 st] 111)) := KBq.alloc (Kaq _) _
  by_cases h1 : Q0l a b f s len = true
  · by_cases h2 : 1 <= (g.length : Int)
    · by_cases h3 : (g.length : Int) <= 24
      · by_cases h4 : 0 <= pl
        · by_cases h5 : pl < (g.length : Int)
          · by_cases h6 : 0 <= st
            · by_cases h7 : st <= 100000
              · rw[<- Q42 (Q6z.2 ⟨h1, h2, h3, h4, h5, h6, h7, trivial⟩)]
                exact Q4Z a b f s o p len cap r g pl st w G t h1 h2 h3 h4 h5 h6 h7
              · have m := Q00 (Q0w (a := a) (b := b) (f := f) (s := s) (n := len) (g := g) (pl := pl) (st := st) (fun q =>h7 q.2.2.2.2.2.2.1))
                try rw[h1]at h
                try rw[Bool.eq_false_iff.2 h1]at h
                go_enter Tryz.func129, Tryz.ntmps129;go_wp2_with fail;generalize (w.alloc (.cells #[.int .i64 a, .int .i64 b, .int .i64 f, .int .i64 s, .slice o len cap, .slice p g.length r, .int .i64 pl, .int .i64 st] 111)) = w0 at *;refine(h _).mono ?_;rintro e u ⟨rfl, c⟩;have j := l.kept c k;have i := Q00 (d.trans (c.mono (KIq k)));clear d c t h k l;obtain⟨v, x, y, z, A, B, C, D⟩ := j;go_wp2;go_ret;exact⟨Q03 m.out, i.out⟩
            · have m := Q00 (Q0w (a := a) (b := b) (f := f) (s := s) (n := len) (g := g) (pl := pl) (st := st) (fun q =>h6 q.2.2.2.2.2.1))
              try rw[h1]at h
              try rw[Bool.eq_false_iff.2 h1]at h
              go_enter Tryz.func129, Tryz.ntmps129;go_wp2_with fail;generalize (w.alloc (.cells #[.int .i64 a, .int .i64 b, .int .i64 f, .int .i64 s, .slice o len cap, .slice p g.length r, .int .i64 pl, .int .i64 st] 111)) = w0 at *;refine(h _).mono ?_;rintro e u ⟨rfl, c⟩;have j := l.kept c k;have i := Q00 (d.trans (c.mono (KIq k)));clear d c t h k l;obtain⟨v, x, y, z, A, B, C, D⟩ := j;go_wp2;go_ret;exact⟨Q03 m.out, i.out⟩
          · have m := Q00 (Q0w (a := a) (b := b) (f := f) (s := s) (n := len) (g := g) (pl := pl) (st := st) (fun q =>h5 q.2.2.2.2.1))
            try rw[h1]at h
            try rw[Bool.eq_false_iff.2 h1]at h
            go_enter Tryz.func129, Tryz.ntmps129;go_wp2_with fail;generalize (w.alloc (.cells #[.int .i64 a, .int .i64 b, .int .i64 f, .int .i64 s, .slice o len cap, .slice p g.length r, .int .i64 pl, .int .i64 st] 111)) = w0 at *;refine(h _).mono ?_;rintro e u ⟨rfl, c⟩;have j := l.kept c k;have i := Q00 (d.trans (c.mono (KIq k)));clear d c t h k l;obtain⟨v, x, y, z, A, B, C, D⟩ := j;go_wp2;go_ret;exact⟨Q03 m.out, i.out⟩
        · have m := Q00 (Q0w (a := a) (b := b) (f := f) (s := s) (n := len) (g := g) (pl := pl) (st := st) (fun q =>h4 q.2.2.2.1))
          try rw[h1]at h
          try rw[Bool.eq_false_iff.2 h1]at h
          go_enter Tryz.func129, Tryz.ntmps129;go_wp2_with fail;generalize (w.alloc (.cells #[.int .i64 a, .int .i64 b, .int .i64 f, .int .i64 s, .slice o len cap, .slice p g.length r, .int .i64 pl, .int .i64 st] 111)) = w0 at *;refine(h _).mono ?_;rintro e u ⟨rfl, c⟩;have j := l.kept c k;have i := Q00 (d.trans (c.mono (KIq k)));clear d c t h k l;obtain⟨v, x, y, z, A, B, C, D⟩ := j;go_wp2;go_ret;exact⟨Q03 m.out, i.out⟩
      · have m := Q00 (Q0w (a := a) (b := b) (f := f) (s := s) (n := len) (g := g) (pl := pl) (st := st) (fun q =>h3 q.2.2.1))
        try rw[h1]at h
        try rw[Bool.eq_false_iff.2 h1]at h
        go_enter Tryz.func129, Tryz.ntmps129;go_wp2_with fail;generalize (w.alloc (.cells #[.int .i64 a, .int .i64 b, .int .i64 f, .int .i64 s, .slice o len cap, .slice p g.length r, .int .i64 pl, .int .i64 st] 111)) = w0 at *;refine(h _).mono ?_;rintro e u ⟨rfl, c⟩;have j := l.kept c k;have i := Q00 (d.trans (c.mono (KIq k)));clear d c t h k l;obtain⟨v, x, y, z, A, B, C, D⟩ := j;go_wp2;go_ret;exact⟨Q03 m.out, i.out⟩
    · have m := Q00 (Q0w (a := a) (b := b) (f := f) (s := s) (n := len) (g := g) (pl := pl) (st := st) (fun q =>h2 q.2.1))
      try rw[h1]at h
      try rw[Bool.eq_false_iff.2 h1]at h
      go_enter Tryz.func129, Tryz.ntmps129;go_wp2_with fail;generalize (w.alloc (.cells #[.int .i64 a, .int .i64 b, .int .i64 f, .int .i64 s, .slice o len cap, .slice p g.length r, .int .i64 pl, .int .i64 st] 111)) = w0 at *;refine(h _).mono ?_;rintro e u ⟨rfl, c⟩;have j := l.kept c k;have i := Q00 (d.trans (c.mono (KIq k)));clear d c t h k l;obtain⟨v, x, y, z, A, B, C, D⟩ := j;go_wp2;go_ret;exact⟨Q03 m.out, i.out⟩
  · have m := Q00 (Q0w (a := a) (b := b) (f := f) (s := s) (n := len) (g := g) (pl := pl) (st := st) (fun q =>h1 q.1))
    try rw[h1]at h
    try rw[Bool.eq_false_iff.2 h1]at h
    go_enter Tryz.func129, Tryz.ntmps129;go_wp2_with fail;generalize (w.alloc (.cells #[.int .i64 a, .int .i64 b, .int .i64 f, .int .i64 s, .slice o len cap, .slice p g.length r, .int .i64 pl, .int .i64 st] 111)) = w0 at *;refine(h _).mono ?_;rintro e u ⟨rfl, c⟩;have j := l.kept c k;have i := Q00 (d.trans (c.mono (KIq k)));clear d c t h k l;obtain⟨v, x, y, z, A, B, C, D⟩ := j;go_wp2;go_ret;exact⟨Q03 m.out, i.out⟩
end Go.Proofs.YteffhdcankkfkaaGreat
