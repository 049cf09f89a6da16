/- Several texts in one: App, SNext, SNext2, LMark, ShB, SNext3, LMarkP, LMarkG, ShC, SSend, ShPk, CutC, OpenB. -/
import Derived.Laws.AppendOwnNone
import Derived.Maps.AppendAt
import Derived.Test.YtajfkcpifnpkeaaGreatQSend02
import Derived.Test.YtajfkcpifnpkeaaGreatQSend40
import Derived.Test.YtajfkcpifnpkeaaGreatQSend29
import Derived.Test.YtajfkcpifnpkeaaGreatQSend39
import Derived.Test.YtajfkcpifnpkeaaGreatQSend21
import Derived.Test.YtajfkcpifnpkeaaGreatQSend15
/- 'append' of bytes onto a row of the call's own, whatever is appended: nil, empty, or read from memory. -/
namespace Go.Proofs.YtajfkcpifnpkeaaGreat
open Go.ChangeShapes Go.WideShapes Go.ChangeAt Go.RowKit Go.Joins
set_option linter.unusedVariables false
set_option linter.unusedSimpArgs false

theorem wpList_append_bytes {w : World} {ops : Array Oper} {rest : List Oper} {o : Oper} {a : Act} {Q : Exit → Act → World → Prop} (hgd : o.guard = none) (s x : Operand)
  (ho : o.op = .call { callee := .builtin .append, args := #[s, x], argTypes := #[60, 60] }) (base : Nat) (v : Value) (l0 : List Int) (hs : a.eval s = v) (hown : ownB w base v l0)
  (ob : Option Addr) (c : Nat) (l : List Int) (hx : a.eval x = .slice ob l.length c) (hnil : ob = none → c = 0) (hR : Rd w ob l) (hlen : l0.length + l.length ≤ 1099511627776) (hbase : base ≤ w.heap.size)
  (h : ∀ v' w', ownB w' base v' (l0 ++ l) → w.grownBy w' v.ownBlock → Below base w w' → wpList Tryz.prog ops Q rest (a.put o.dst v') w') : wpList Tryz.prog ops Q (o :: rest) a w := by
 obtain ⟨i0, hi, hz0, hz1, hz2⟩ := info_parts infoU8
 have hb : ∀ w', w.grownBy w' v.ownBlock → Below base w w' := fun w' hg => (Below.refl _ _).grown hg hbase (fun k e => (hown.lt k e).1)
 cases ob with
 | none =>
  have e := hR.nil
  subst e
  have hc := hnil rfl
  subst hc
  refine wpList_append_own_none hgd s x 60 ho base 5 i0 1 Tryz.underlying60 hi v _ _ hs hown hx ?_
  exact h v w (by simpa using hown) (World.grownBy.refl _ _) (Below.refl _ _)
 | some ad =>
  refine wpList_append_own _ hgd s x 60 ho base 5 i0 (.int .u8 0) 1 1 Tryz.underlying60 hi hz0 hz1 hz2 rfl (by decide) v _ _ hs hown ad l.length c (l.map (Value.int .u8)) hx (by simp) hR.news (ints_oneCell .u8 l) (by unfold maxLen; omega) (by omega) hbase ?_
  intro v' w' h1 h2 _
  exact h v' w' (by unfold ownB; simpa using h1) h2 (hb _ h2)

end Go.Proofs.YtajfkcpifnpkeaaGreat

/- Next on both sides: a packet's and a carrier's copy that owns its memory. -/
namespace Go.Proofs.YtajfkcpifnpkeaaGreat
open Go.ChangeShapes Go.WideShapes Go.ChangeAt Go.RowKit Go.Joins
set_option linter.unusedVariables false
set_option linter.unusedSimpArgs false

set_option maxHeartbeats 1000000 in
theorem clonePacket_any (a b f s : Int) (o : Option Addr) (cap : Nat) (l : List Int) (w : World) (hR : Rd w o l) (hnil : o = none → cap = 0) (hl : l.length ≤ 1048576) :
  Calls Tryz.prog 143 #[pkt a b f s (.slice o l.length cap)] w fun e w' => ∃ v, e = .returned (pkt a b f s v) ∧ ownB w' w.heap.size v l ∧ Below w.heap.size w w' := by
 have hb0 : Below w.heap.size w ((w.alloc (.cells #[.int .i64 a, .int .i64 b, .int .i64 f, .int .i64 s, .slice o l.length cap] 68)).alloc (.cells #[.int .i64 0, .int .i64 0, .int .i64 0, .int .i64 0, .slice none 0 0] 68)) := ((Below.refl _ _).alloc (Nat.le_refl _) _).alloc (by simp) _
 have hs0 : ((w.alloc (.cells #[.int .i64 a, .int .i64 b, .int .i64 f, .int .i64 s, .slice o l.length cap] 68)).alloc (.cells #[.int .i64 0, .int .i64 0, .int .i64 0, .int .i64 0, .slice none 0 0] 68)).heap.size = w.heap.size + 2 := by simp
 have p0 : boxed w.heap.size a b f s (.slice o l.length cap) ((w.alloc (.cells #[.int .i64 a, .int .i64 b, .int .i64 f, .int .i64 s, .slice o l.length cap] 68)).alloc (.cells #[.int .i64 0, .int .i64 0, .int .i64 0, .int .i64 0, .slice none 0 0] 68)) := by unfold boxed; simp
 have r0 : empty5 (w.heap.size + 1) ((w.alloc (.cells #[.int .i64 a, .int .i64 b, .int .i64 f, .int .i64 s, .slice o l.length cap] 68)).alloc (.cells #[.int .i64 0, .int .i64 0, .int .i64 0, .int .i64 0, .slice none 0 0] 68)) := by
  have := empty5_new (w.alloc (.cells #[.int .i64 a, .int .i64 b, .int .i64 f, .int .i64 s, .slice o l.length cap] 68)) 68
  simpa only [World.size_alloc] using this
 have f4 : ((w.alloc (.cells #[.int .i64 a, .int .i64 b, .int .i64 f, .int .i64 s, .slice o l.length cap] 68)).alloc (.cells #[.int .i64 0, .int .i64 0, .int .i64 0, .int .i64 0, .slice none 0 0] 68)).frozen? ⟨w.heap.size, 4, none⟩ = false := by simp
 go_enter Tryz.func143, Tryz.ntmps143
 go_wp2_with (at_builtin; refine wpList_append_bytes rfl _ _ rfl (w.heap.size + 2) (.slice none 0 0) [] rfl (World.ownsRow_nil _ _ _ _) o cap l rfl hnil (hR.kept hb0) ?c1 ?c2 ?_)
 case c1 => simp; omega
 case c2 => omega
 generalize ((w.alloc (.cells #[.int .i64 a, .int .i64 b, .int .i64 f, .int .i64 s, .slice o l.length cap] 68)).alloc (.cells #[.int .i64 0, .int .i64 0, .int .i64 0, .int .i64 0, .slice none 0 0] 68)) = w0 at *
 intro v w1 hv hg hb1
 replace hv : ownB w1 (w.heap.size + 2) v l := hv
 obtain ⟨ov, cv, hve, _⟩ := hv.open
 subst hve
 replace p0 := p0.kept hb1 (by omega)
 replace r0 := r0.kept hb1 (by omega)
 replace f4 := (hb1.frozen (p := ⟨w.heap.size, 4, none⟩) (by show w.heap.size < w.heap.size + 2; omega)).trans f4
 have HB := hide (hb0.trans (hb1.mono (by omega)))
 have HV := hide hv
 clear hb0 hb1 hv hg hR
 obtain ⟨x0, x1, x2, x3, x4⟩ := p0
 obtain ⟨⟨y0, y1, y2, y3, y4⟩, g0, g1, g2, g3, g4⟩ := r0
 go_wp2
 refine bodyPost_ret (v := pkt a b f s (.slice ov l.length cv)) (by simp [results, Tryz.results143, go_sem, y0, y1, y2, y3, y4]) rfl ⟨_, rfl, ?_, ?_⟩
 ·refine own_mono (base := w.heap.size + 2) ?_ (by omega)
  repeat (refine ownsRow_setCell_below ?_ (by simp <;> omega) _)
  exact HV.out
 ·repeat (refine Below.setCell ?_ (by simp <;> omega) _)
  exact HB.out

set_option maxHeartbeats 1000000 in
theorem l1own_any (a b f s : Int) (o : Option Addr) (cap : Nat) (l : List Int) (w : World) (hR : Rd w o l) (hnil : o = none → cap = 0) (hl : l.length ≤ 1048576) :
  Calls Tryz.prog 142 #[pkt a b f s (.slice o l.length cap)] w fun e w' => ∃ v, e = .returned (pkt a b f s v) ∧ ownB w' w.heap.size v l ∧ Below w.heap.size w w' := by
 have hb0 : Below w.heap.size w ((w.alloc (.cells #[.int .i64 a, .int .i64 b, .int .i64 f, .int .i64 s, .slice o l.length cap] 68)).alloc (.cells #[.int .i64 0, .int .i64 0, .int .i64 0, .int .i64 0, .slice none 0 0] 68)) := ((Below.refl _ _).alloc (Nat.le_refl _) _).alloc (by simp) _
 have hs0 : ((w.alloc (.cells #[.int .i64 a, .int .i64 b, .int .i64 f, .int .i64 s, .slice o l.length cap] 68)).alloc (.cells #[.int .i64 0, .int .i64 0, .int .i64 0, .int .i64 0, .slice none 0 0] 68)).heap.size = w.heap.size + 2 := by simp
 have p0 : boxed w.heap.size a b f s (.slice o l.length cap) ((w.alloc (.cells #[.int .i64 a, .int .i64 b, .int .i64 f, .int .i64 s, .slice o l.length cap] 68)).alloc (.cells #[.int .i64 0, .int .i64 0, .int .i64 0, .int .i64 0, .slice none 0 0] 68)) := by unfold boxed; simp
 have r0 : empty5 (w.heap.size + 1) ((w.alloc (.cells #[.int .i64 a, .int .i64 b, .int .i64 f, .int .i64 s, .slice o l.length cap] 68)).alloc (.cells #[.int .i64 0, .int .i64 0, .int .i64 0, .int .i64 0, .slice none 0 0] 68)) := by
  have := empty5_new (w.alloc (.cells #[.int .i64 a, .int .i64 b, .int .i64 f, .int .i64 s, .slice o l.length cap] 68)) 68
  simpa only [World.size_alloc] using this
 have f4 : ((w.alloc (.cells #[.int .i64 a, .int .i64 b, .int .i64 f, .int .i64 s, .slice o l.length cap] 68)).alloc (.cells #[.int .i64 0, .int .i64 0, .int .i64 0, .int .i64 0, .slice none 0 0] 68)).frozen? ⟨w.heap.size, 4, none⟩ = false := by simp
 go_enter Tryz.func142, Tryz.ntmps142
 have hA : Below w.heap.size w (((w.alloc (.cells #[.int .i64 a, .int .i64 b, .int .i64 f, .int .i64 s, .slice o l.length cap] 68)).alloc (.cells #[.int .i64 0, .int .i64 0, .int .i64 0, .int .i64 0, .slice none 0 0] 68)).alloc (.cells #[] 5)) := hb0.alloc (by simp; omega) _
 have F1 : ownB (((w.alloc (.cells #[.int .i64 a, .int .i64 b, .int .i64 f, .int .i64 s, .slice o l.length cap] 68)).alloc (.cells #[.int .i64 0, .int .i64 0, .int .i64 0, .int .i64 0, .slice none 0 0] 68)).alloc (.cells #[] 5)) (w.heap.size + 2) (.slice (some ⟨w.heap.size + 2, 0, none⟩) 0 0) [] := by
  have := own_none1 ((w.alloc (.cells #[.int .i64 a, .int .i64 b, .int .i64 f, .int .i64 s, .slice o l.length cap] 68)).alloc (.cells #[.int .i64 0, .int .i64 0, .int .i64 0, .int .i64 0, .slice none 0 0] 68)) 5 1
  rw [hs0] at this; exact this
 have hAA : Below (w.heap.size + 2) ((w.alloc (.cells #[.int .i64 a, .int .i64 b, .int .i64 f, .int .i64 s, .slice o l.length cap] 68)).alloc (.cells #[.int .i64 0, .int .i64 0, .int .i64 0, .int .i64 0, .slice none 0 0] 68)) (((w.alloc (.cells #[.int .i64 a, .int .i64 b, .int .i64 f, .int .i64 s, .slice o l.length cap] 68)).alloc (.cells #[.int .i64 0, .int .i64 0, .int .i64 0, .int .i64 0, .slice none 0 0] 68)).alloc (.cells #[] 5)) := (Below.refl _ _).alloc (by simp) _
 go_wp2_with (at_builtin; refine wpList_append_bytes rfl _ _ rfl (w.heap.size + 2) (.slice (some ⟨w.heap.size + 2, 0, none⟩) 0 0) [] rfl F1 o cap l rfl hnil (hR.kept hA) ?c1 ?c2 ?_)
 case c1 => simp; omega
 case c2 => simp
 generalize (((w.alloc (.cells #[.int .i64 a, .int .i64 b, .int .i64 f, .int .i64 s, .slice o l.length cap] 68)).alloc (.cells #[.int .i64 0, .int .i64 0, .int .i64 0, .int .i64 0, .slice none 0 0] 68)).alloc (.cells #[] 5)) = wA at *
 generalize ((w.alloc (.cells #[.int .i64 a, .int .i64 b, .int .i64 f, .int .i64 s, .slice o l.length cap] 68)).alloc (.cells #[.int .i64 0, .int .i64 0, .int .i64 0, .int .i64 0, .slice none 0 0] 68)) = w0 at *
 intro v w1 hv hg hb1
 replace hv : ownB w1 (w.heap.size + 2) v l := hv
 obtain ⟨ov, cv, hve, _⟩ := hv.open
 subst hve
 replace hb1 := hAA.trans hb1
 replace p0 := p0.kept hb1 (by omega)
 replace r0 := r0.kept hb1 (by omega)
 replace f4 := (hb1.frozen (p := ⟨w.heap.size, 4, none⟩) (by show w.heap.size < w.heap.size + 2; omega)).trans f4
 have HB := hide (hb0.trans (hb1.mono (by omega)))
 have HV := hide hv
 clear hb0 hb1 hv hg hR hA F1 hAA
 obtain ⟨x0, x1, x2, x3, x4⟩ := p0
 obtain ⟨⟨y0, y1, y2, y3, y4⟩, g0, g1, g2, g3, g4⟩ := r0
 go_wp2
 refine bodyPost_ret (v := pkt a b f s (.slice ov l.length cv)) (by simp [results, Tryz.results142, go_sem, y0, y1, y2, y3, y4]) rfl ⟨_, rfl, ?_, ?_⟩
 ·refine own_mono (base := w.heap.size + 2) ?_ (by omega)
  repeat (refine ownsRow_setCell_below ?_ (by simp <;> omega) _)
  exact HV.out
 ·repeat (refine Below.setCell ?_ (by simp <;> omega) _)
  exact HB.out



end Go.Proofs.YtajfkcpifnpkeaaGreat

/- A carrier's copy that owns its memory, on both sides. -/
namespace Go.Proofs.YtajfkcpifnpkeaaGreat
open Go.ChangeShapes Go.WideShapes Go.ChangeAt Go.RowKit Go.Joins
set_option linter.unusedVariables false
set_option linter.unusedSimpArgs false

/-- A box behind a store of one of its cells; another box. -/
theorem box_set (w : World) (k j : Nat) (cs : Array Value) (t : TypeId) (v : Value) (h : w.heap[k]? = some (.cells cs t (0, 0))) : (w.setCell ⟨k, j, none⟩ v).heap[k]? = some (.cells (cs.setIfInBounds j v) t (0, 0)) := by
 simp [World.setCell, Array.getElem?_modify, h]
theorem box_farN (w : World) (k q j : Nat) (v : Value) (h : k ≠ q) : (w.setCell ⟨q, j, none⟩ v).heap[k]? = w.heap[k]? := Below.heap_setCell w ⟨q, j, none⟩ v k h

set_option maxRecDepth 100000 in
set_option maxHeartbeats 2000000 in
theorem l2own_any (a b f s : Int) (o og : Option Addr) (cap cg : Nat) (l : List Int) (g : List (Int × Int)) (pl st : Int) (w : World) (hR : Rd w o l) (hnil : o = none → cap = 0) (hl : l.length ≤ 1048576) (hG : RdG w og g) (hnilg : og = none → cg = 0) (hgl : g.length ≤ 1048576) :
  Calls Tryz.prog 82 #[crr a b f s (.slice o l.length cap) (.slice og g.length cg) pl st] w fun e w' => ∃ v vg, e = .returned (crr a b f s v vg pl st) ∧ ownB w' w.heap.size v l ∧ ownG w' w.heap.size vg g ∧ Below w.heap.size w w' := by
 have hb0 : Below w.heap.size w ((w.alloc (.cells #[.int .i64 a, .int .i64 b, .int .i64 f, .int .i64 s, .slice o l.length cap, .slice og g.length cg, .int .i64 pl, .int .i64 st] 76)).alloc (.cells #[.int .i64 0, .int .i64 0, .int .i64 0, .int .i64 0, .slice none 0 0, .slice none 0 0, .int .i64 0, .int .i64 0] 76)) := ((Below.refl _ _).alloc (Nat.le_refl _) _).alloc (by simp) _
 have hs0 : ((w.alloc (.cells #[.int .i64 a, .int .i64 b, .int .i64 f, .int .i64 s, .slice o l.length cap, .slice og g.length cg, .int .i64 pl, .int .i64 st] 76)).alloc (.cells #[.int .i64 0, .int .i64 0, .int .i64 0, .int .i64 0, .slice none 0 0, .slice none 0 0, .int .i64 0, .int .i64 0] 76)).heap.size = w.heap.size + 2 := by simp
 have bx : ((w.alloc (.cells #[.int .i64 a, .int .i64 b, .int .i64 f, .int .i64 s, .slice o l.length cap, .slice og g.length cg, .int .i64 pl, .int .i64 st] 76)).alloc (.cells #[.int .i64 0, .int .i64 0, .int .i64 0, .int .i64 0, .slice none 0 0, .slice none 0 0, .int .i64 0, .int .i64 0] 76)).heap[w.heap.size]? = some (.cells #[.int .i64 a, .int .i64 b, .int .i64 f, .int .i64 s, .slice o l.length cap, .slice og g.length cg, .int .i64 pl, .int .i64 st] 76 (0, 0)) := (Below.heap_alloc (w.alloc (.cells #[.int .i64 a, .int .i64 b, .int .i64 f, .int .i64 s, .slice o l.length cap, .slice og g.length cg, .int .i64 pl, .int .i64 st] 76)) (.cells #[.int .i64 0, .int .i64 0, .int .i64 0, .int .i64 0, .slice none 0 0, .slice none 0 0, .int .i64 0, .int .i64 0] 76) w.heap.size (by simp)).trans (World.alloc_heap_new w (.cells #[.int .i64 a, .int .i64 b, .int .i64 f, .int .i64 s, .slice o l.length cap, .slice og g.length cg, .int .i64 pl, .int .i64 st] 76))
 have rx : ((w.alloc (.cells #[.int .i64 a, .int .i64 b, .int .i64 f, .int .i64 s, .slice o l.length cap, .slice og g.length cg, .int .i64 pl, .int .i64 st] 76)).alloc (.cells #[.int .i64 0, .int .i64 0, .int .i64 0, .int .i64 0, .slice none 0 0, .slice none 0 0, .int .i64 0, .int .i64 0] 76)).heap[w.heap.size + 1]? = some (.cells #[.int .i64 0, .int .i64 0, .int .i64 0, .int .i64 0, .slice none 0 0, .slice none 0 0, .int .i64 0, .int .i64 0] 76 (0, 0)) := by
  have := World.alloc_heap_new (w.alloc (.cells #[.int .i64 a, .int .i64 b, .int .i64 f, .int .i64 s, .slice o l.length cap, .slice og g.length cg, .int .i64 pl, .int .i64 st] 76)) (.cells #[.int .i64 0, .int .i64 0, .int .i64 0, .int .i64 0, .slice none 0 0, .slice none 0 0, .int .i64 0, .int .i64 0] 76)
  simpa only [World.size_alloc] using this
 go_enter Tryz.func82, Tryz.ntmps82
 go_wp2_with fail
 generalize ((w.alloc (.cells #[.int .i64 a, .int .i64 b, .int .i64 f, .int .i64 s, .slice o l.length cap, .slice og g.length cg, .int .i64 pl, .int .i64 st] 76)).alloc (.cells #[.int .i64 0, .int .i64 0, .int .i64 0, .int .i64 0, .slice none 0 0, .slice none 0 0, .int .i64 0, .int .i64 0] 76)) = w0 at *
 refine (l1own_any a b f s o cap l w0 (hR.kept hb0) hnil hl).mono ?_
 rintro e w1 ⟨v1, rfl, hv1, hb1⟩
 obtain ⟨o1, c1, hv1e, _⟩ := hv1.open
 subst hv1e
 replace bx := (hb1.block _ (by omega)).trans bx
 replace rx := (hb1.block _ (by omega)).trans rx
 have hs1 : w.heap.size + 2 ≤ w1.heap.size := by have := hb1.size; omega
 have hB1 : Below w.heap.size w w1 := hb0.trans (hb1.mono (by omega))
 rw [hs0] at hv1
 have bx5 : (((((w1.setCell ⟨w.heap.size, 0, none⟩ (.int .i64 a)).setCell ⟨w.heap.size, 1, none⟩ (.int .i64 b)).setCell ⟨w.heap.size, 2, none⟩ (.int .i64 f)).setCell ⟨w.heap.size, 3, none⟩ (.int .i64 s)).setCell ⟨w.heap.size, 4, none⟩ (.slice o1 l.length c1)).heap[w.heap.size]? = some (.cells #[.int .i64 a, .int .i64 b, .int .i64 f, .int .i64 s, .slice o1 l.length c1, .slice og g.length cg, .int .i64 pl, .int .i64 st] 76 (0, 0)) := (box_set _ w.heap.size 4 _ _ (.slice o1 l.length c1) (box_set _ w.heap.size 3 _ _ (.int .i64 s) (box_set _ w.heap.size 2 _ _ (.int .i64 f) (box_set _ w.heap.size 1 _ _ (.int .i64 b) (box_set _ w.heap.size 0 _ _ (.int .i64 a) bx)))))
 have rx5 : (((((w1.setCell ⟨w.heap.size, 0, none⟩ (.int .i64 a)).setCell ⟨w.heap.size, 1, none⟩ (.int .i64 b)).setCell ⟨w.heap.size, 2, none⟩ (.int .i64 f)).setCell ⟨w.heap.size, 3, none⟩ (.int .i64 s)).setCell ⟨w.heap.size, 4, none⟩ (.slice o1 l.length c1)).heap[w.heap.size + 1]? = some (.cells #[.int .i64 0, .int .i64 0, .int .i64 0, .int .i64 0, .slice none 0 0, .slice none 0 0, .int .i64 0, .int .i64 0] 76 (0, 0)) := by
  rw [box_farN _ _ _ _ _ (by omega), box_farN _ _ _ _ _ (by omega), box_farN _ _ _ _ _ (by omega), box_farN _ _ _ _ _ (by omega), box_farN _ _ _ _ _ (by omega)]; exact rx
 have B5 : Below w.heap.size w (((((w1.setCell ⟨w.heap.size, 0, none⟩ (.int .i64 a)).setCell ⟨w.heap.size, 1, none⟩ (.int .i64 b)).setCell ⟨w.heap.size, 2, none⟩ (.int .i64 f)).setCell ⟨w.heap.size, 3, none⟩ (.int .i64 s)).setCell ⟨w.heap.size, 4, none⟩ (.slice o1 l.length c1)) := by
  repeat (refine Below.setCell ?_ (by simp) _)
  exact hB1
 have own5 : ownB (((((w1.setCell ⟨w.heap.size, 0, none⟩ (.int .i64 a)).setCell ⟨w.heap.size, 1, none⟩ (.int .i64 b)).setCell ⟨w.heap.size, 2, none⟩ (.int .i64 f)).setCell ⟨w.heap.size, 3, none⟩ (.int .i64 s)).setCell ⟨w.heap.size, 4, none⟩ (.slice o1 l.length c1)) (w.heap.size + 2) (.slice o1 l.length c1) l := by
  repeat (refine ownsRow_setCell_below ?_ (by simp) _)
  exact hv1
 have hs5 : w.heap.size + 2 ≤ (((((w1.setCell ⟨w.heap.size, 0, none⟩ (.int .i64 a)).setCell ⟨w.heap.size, 1, none⟩ (.int .i64 b)).setCell ⟨w.heap.size, 2, none⟩ (.int .i64 f)).setCell ⟨w.heap.size, 3, none⟩ (.int .i64 s)).setCell ⟨w.heap.size, 4, none⟩ (.slice o1 l.length c1)).heap.size := by simpa [World.setCell] using hs1
 have x0 : w1.cell? ⟨w.heap.size, 0, none⟩ = some (.int .i64 a) := block_cell bx 0 _ rfl
 have fx0 : w1.frozen? ⟨w.heap.size, 0, none⟩ = false := block_frozen bx 0
 have x1 : w1.cell? ⟨w.heap.size, 1, none⟩ = some (.int .i64 b) := block_cell bx 1 _ rfl
 have fx1 : w1.frozen? ⟨w.heap.size, 1, none⟩ = false := block_frozen bx 1
 have x2 : w1.cell? ⟨w.heap.size, 2, none⟩ = some (.int .i64 f) := block_cell bx 2 _ rfl
 have fx2 : w1.frozen? ⟨w.heap.size, 2, none⟩ = false := block_frozen bx 2
 have x3 : w1.cell? ⟨w.heap.size, 3, none⟩ = some (.int .i64 s) := block_cell bx 3 _ rfl
 have fx3 : w1.frozen? ⟨w.heap.size, 3, none⟩ = false := block_frozen bx 3
 have x4 : w1.cell? ⟨w.heap.size, 4, none⟩ = some (.slice o l.length cap) := block_cell bx 4 _ rfl
 have fx4 : w1.frozen? ⟨w.heap.size, 4, none⟩ = false := block_frozen bx 4
 have x5 : w1.cell? ⟨w.heap.size, 5, none⟩ = some (.slice og g.length cg) := block_cell bx 5 _ rfl
 have fx5 : w1.frozen? ⟨w.heap.size, 5, none⟩ = false := block_frozen bx 5
 have x6 : w1.cell? ⟨w.heap.size, 6, none⟩ = some (.int .i64 pl) := block_cell bx 6 _ rfl
 have fx6 : w1.frozen? ⟨w.heap.size, 6, none⟩ = false := block_frozen bx 6
 have x7 : w1.cell? ⟨w.heap.size, 7, none⟩ = some (.int .i64 st) := block_cell bx 7 _ rfl
 have fx7 : w1.frozen? ⟨w.heap.size, 7, none⟩ = false := block_frozen bx 7
 clear hb0 hb1 hv1 hB1 bx rx
 have HB5 := hide B5
 have HO5 := hide own5
 have HS5 := hide hs5
 have HX5 := hide bx5
 have HY5 := hide rx5
 have hlt1 : w.heap.size < w1.heap.size := by omega
 clear B5 own5 hs5 bx5 rx5
 have cA5 : ((((((w1.setCell ⟨w.heap.size, 0, none⟩ (.int .i64 a)).setCell ⟨w.heap.size, 1, none⟩ (.int .i64 b)).setCell ⟨w.heap.size, 2, none⟩ (.int .i64 f)).setCell ⟨w.heap.size, 3, none⟩ (.int .i64 s)).setCell ⟨w.heap.size, 4, none⟩ (.slice o1 l.length c1)).alloc (.cells #[] 126)).cell? ⟨w.heap.size, 5, none⟩ = some (.slice og g.length cg) := alloc_old' (((((w1.setCell ⟨w.heap.size, 0, none⟩ (.int .i64 a)).setCell ⟨w.heap.size, 1, none⟩ (.int .i64 b)).setCell ⟨w.heap.size, 2, none⟩ (.int .i64 f)).setCell ⟨w.heap.size, 3, none⟩ (.int .i64 s)).setCell ⟨w.heap.size, 4, none⟩ (.slice o1 l.length c1)) (.cells #[] 126) (block_cell HX5.out 5 _ rfl) (by have := HS5.out; omega)
 have F1 : Hid (ownL layG 126 ((((((w1.setCell ⟨w.heap.size, 0, none⟩ (.int .i64 a)).setCell ⟨w.heap.size, 1, none⟩ (.int .i64 b)).setCell ⟨w.heap.size, 2, none⟩ (.int .i64 f)).setCell ⟨w.heap.size, 3, none⟩ (.int .i64 s)).setCell ⟨w.heap.size, 4, none⟩ (.slice o1 l.length c1)).alloc (.cells #[] 126)) (w.heap.size + 2) (.slice (some ⟨w1.heap.size, 0, none⟩) 0 0) []) := by
  have h := own_none0 (L := layG) (((((w1.setCell ⟨w.heap.size, 0, none⟩ (.int .i64 a)).setCell ⟨w.heap.size, 1, none⟩ (.int .i64 b)).setCell ⟨w.heap.size, 2, none⟩ (.int .i64 f)).setCell ⟨w.heap.size, 3, none⟩ (.int .i64 s)).setCell ⟨w.heap.size, 4, none⟩ (.slice o1 l.length c1)) 126
  rw [show (((((w1.setCell ⟨w.heap.size, 0, none⟩ (.int .i64 a)).setCell ⟨w.heap.size, 1, none⟩ (.int .i64 b)).setCell ⟨w.heap.size, 2, none⟩ (.int .i64 f)).setCell ⟨w.heap.size, 3, none⟩ (.int .i64 s)).setCell ⟨w.heap.size, 4, none⟩ (.slice o1 l.length c1)).heap.size = w1.heap.size by simp [World.setCell]] at h
  exact own_mono h (by have := hs1; omega)
 go_wp2_with (at_builtin; refine wpList_append_lay appG rfl _ _ rfl (w.heap.size + 2) _ [] rfl F1.out og cg w.heap.size g g.length rfl rfl hnilg ?c0 ?c1 ?c2 ?_)
 case c1 => simp; omega
 case c0 => exact (hG.lay).kept (HB5.out.alloc (Nat.le_trans (by omega) HS5.out) _) (Nat.le_refl _)
 case c2 => exact Nat.le_trans HS5.out (by simp)
 have B5 := HB5.out
 have own5 := HO5.out
 have hs5 := HS5.out
 have bx5 := HX5.out
 have rx5 := HY5.out
 clear HB5 HO5 HS5 HX5 HY5
 clear x0 fx0 x1 fx1 x2 fx2 x3 fx3 x4 fx4 x5 fx5 x6 fx6 x7 fx7
 have hsz5 : Hid ((((((w1.setCell ⟨w.heap.size, 0, none⟩ (.int .i64 a)).setCell ⟨w.heap.size, 1, none⟩ (.int .i64 b)).setCell ⟨w.heap.size, 2, none⟩ (.int .i64 f)).setCell ⟨w.heap.size, 3, none⟩ (.int .i64 s)).setCell ⟨w.heap.size, 4, none⟩ (.slice o1 l.length c1)).heap.size = w1.heap.size) := by show _ = _; simp [World.setCell]
 have bW : Below (((((w1.setCell ⟨w.heap.size, 0, none⟩ (.int .i64 a)).setCell ⟨w.heap.size, 1, none⟩ (.int .i64 b)).setCell ⟨w.heap.size, 2, none⟩ (.int .i64 f)).setCell ⟨w.heap.size, 3, none⟩ (.int .i64 s)).setCell ⟨w.heap.size, 4, none⟩ (.slice o1 l.length c1)).heap.size (((((w1.setCell ⟨w.heap.size, 0, none⟩ (.int .i64 a)).setCell ⟨w.heap.size, 1, none⟩ (.int .i64 b)).setCell ⟨w.heap.size, 2, none⟩ (.int .i64 f)).setCell ⟨w.heap.size, 3, none⟩ (.int .i64 s)).setCell ⟨w.heap.size, 4, none⟩ (.slice o1 l.length c1)) ((((((w1.setCell ⟨w.heap.size, 0, none⟩ (.int .i64 a)).setCell ⟨w.heap.size, 1, none⟩ (.int .i64 b)).setCell ⟨w.heap.size, 2, none⟩ (.int .i64 f)).setCell ⟨w.heap.size, 3, none⟩ (.int .i64 s)).setCell ⟨w.heap.size, 4, none⟩ (.slice o1 l.length c1)).alloc (.cells #[] 126)) := (Below.refl _ _).alloc (Nat.le_refl _) _
 have bA : Below (w.heap.size + 2) (((((w1.setCell ⟨w.heap.size, 0, none⟩ (.int .i64 a)).setCell ⟨w.heap.size, 1, none⟩ (.int .i64 b)).setCell ⟨w.heap.size, 2, none⟩ (.int .i64 f)).setCell ⟨w.heap.size, 3, none⟩ (.int .i64 s)).setCell ⟨w.heap.size, 4, none⟩ (.slice o1 l.length c1)) ((((((w1.setCell ⟨w.heap.size, 0, none⟩ (.int .i64 a)).setCell ⟨w.heap.size, 1, none⟩ (.int .i64 b)).setCell ⟨w.heap.size, 2, none⟩ (.int .i64 f)).setCell ⟨w.heap.size, 3, none⟩ (.int .i64 s)).setCell ⟨w.heap.size, 4, none⟩ (.slice o1 l.length c1)).alloc (.cells #[] 126)) := (Below.refl _ _).alloc hs5 _
 have oA := F1.out
 clear cA5
 generalize ((((((w1.setCell ⟨w.heap.size, 0, none⟩ (.int .i64 a)).setCell ⟨w.heap.size, 1, none⟩ (.int .i64 b)).setCell ⟨w.heap.size, 2, none⟩ (.int .i64 f)).setCell ⟨w.heap.size, 3, none⟩ (.int .i64 s)).setCell ⟨w.heap.size, 4, none⟩ (.slice o1 l.length c1)).alloc (.cells #[] 126)) = wA at *
 generalize (((((w1.setCell ⟨w.heap.size, 0, none⟩ (.int .i64 a)).setCell ⟨w.heap.size, 1, none⟩ (.int .i64 b)).setCell ⟨w.heap.size, 2, none⟩ (.int .i64 f)).setCell ⟨w.heap.size, 3, none⟩ (.int .i64 s)).setCell ⟨w.heap.size, 4, none⟩ (.slice o1 l.length c1)) = w5 at *
 intro v2 w6 hv2 hg2 _
 have b6 : Below (w.heap.size + 2) w5 w6 := bA.grown hg2 (Nat.le_trans hs5 bA.size) (fun k h => (oA.lt k h).1)
 have hv2' : ownG w6 (w.heap.size + 2) v2 g := ownG_lay.2 hv2
 have own6 : ownB w6 (w.heap.size + 2) (.slice o1 l.length c1) l := by
  refine World.ownsRow.kept (own_kept own5 bW) hg2 ?_
  cases hob : (Value.slice o1 l.length c1).ownBlock with
  | none => exact .inl rfl
  | some q => right; have := (own5.lt q hob).2; have h5 := hsz5.out; intro h; simp [Value.ownBlock] at h; omega
 obtain ⟨o2, c2, hv2e, _⟩ := hv2'.open
 subst hv2e
 have HB6 := hide (B5.trans (b6.mono (by omega)))
 replace bx5 := (b6.block _ (by omega)).trans bx5
 replace rx5 := (b6.block _ (by omega)).trans rx5
 have HV2 := hide hv2'
 have HV1 := hide own6
 have x0 : w6.cell? ⟨w.heap.size, 0, none⟩ = some (.int .i64 a) := block_cell bx5 0 _ rfl
 have fx0 : w6.frozen? ⟨w.heap.size, 0, none⟩ = false := block_frozen bx5 0
 have x1 : w6.cell? ⟨w.heap.size, 1, none⟩ = some (.int .i64 b) := block_cell bx5 1 _ rfl
 have fx1 : w6.frozen? ⟨w.heap.size, 1, none⟩ = false := block_frozen bx5 1
 have x2 : w6.cell? ⟨w.heap.size, 2, none⟩ = some (.int .i64 f) := block_cell bx5 2 _ rfl
 have fx2 : w6.frozen? ⟨w.heap.size, 2, none⟩ = false := block_frozen bx5 2
 have x3 : w6.cell? ⟨w.heap.size, 3, none⟩ = some (.int .i64 s) := block_cell bx5 3 _ rfl
 have fx3 : w6.frozen? ⟨w.heap.size, 3, none⟩ = false := block_frozen bx5 3
 have x4 : w6.cell? ⟨w.heap.size, 4, none⟩ = some (.slice o1 l.length c1) := block_cell bx5 4 _ rfl
 have fx4 : w6.frozen? ⟨w.heap.size, 4, none⟩ = false := block_frozen bx5 4
 have x5 : w6.cell? ⟨w.heap.size, 5, none⟩ = some (.slice og g.length cg) := block_cell bx5 5 _ rfl
 have fx5 : w6.frozen? ⟨w.heap.size, 5, none⟩ = false := block_frozen bx5 5
 have x6 : w6.cell? ⟨w.heap.size, 6, none⟩ = some (.int .i64 pl) := block_cell bx5 6 _ rfl
 have fx6 : w6.frozen? ⟨w.heap.size, 6, none⟩ = false := block_frozen bx5 6
 have x7 : w6.cell? ⟨w.heap.size, 7, none⟩ = some (.int .i64 st) := block_cell bx5 7 _ rfl
 have fx7 : w6.frozen? ⟨w.heap.size, 7, none⟩ = false := block_frozen bx5 7
 have y0 : w6.cell? ⟨w.heap.size + 1, 0, none⟩ = some (.int .i64 0) := block_cell rx5 0 _ rfl
 have fy0 : w6.frozen? ⟨w.heap.size + 1, 0, none⟩ = false := block_frozen rx5 0
 have y1 : w6.cell? ⟨w.heap.size + 1, 1, none⟩ = some (.int .i64 0) := block_cell rx5 1 _ rfl
 have fy1 : w6.frozen? ⟨w.heap.size + 1, 1, none⟩ = false := block_frozen rx5 1
 have y2 : w6.cell? ⟨w.heap.size + 1, 2, none⟩ = some (.int .i64 0) := block_cell rx5 2 _ rfl
 have fy2 : w6.frozen? ⟨w.heap.size + 1, 2, none⟩ = false := block_frozen rx5 2
 have y3 : w6.cell? ⟨w.heap.size + 1, 3, none⟩ = some (.int .i64 0) := block_cell rx5 3 _ rfl
 have fy3 : w6.frozen? ⟨w.heap.size + 1, 3, none⟩ = false := block_frozen rx5 3
 have y4 : w6.cell? ⟨w.heap.size + 1, 4, none⟩ = some (.slice none 0 0) := block_cell rx5 4 _ rfl
 have fy4 : w6.frozen? ⟨w.heap.size + 1, 4, none⟩ = false := block_frozen rx5 4
 have y5 : w6.cell? ⟨w.heap.size + 1, 5, none⟩ = some (.slice none 0 0) := block_cell rx5 5 _ rfl
 have fy5 : w6.frozen? ⟨w.heap.size + 1, 5, none⟩ = false := block_frozen rx5 5
 have y6 : w6.cell? ⟨w.heap.size + 1, 6, none⟩ = some (.int .i64 0) := block_cell rx5 6 _ rfl
 have fy6 : w6.frozen? ⟨w.heap.size + 1, 6, none⟩ = false := block_frozen rx5 6
 have y7 : w6.cell? ⟨w.heap.size + 1, 7, none⟩ = some (.int .i64 0) := block_cell rx5 7 _ rfl
 have fy7 : w6.frozen? ⟨w.heap.size + 1, 7, none⟩ = false := block_frozen rx5 7
 clear hv2 hv2' own6 own5 B5 b6 hg2 bx5 hs5 hR hG
 have r0 : (w6.setCell ⟨w.heap.size, 5, none⟩ (.slice o2 g.length c2)).heap[w.heap.size + 1]? = some (.cells #[.int .i64 0, .int .i64 0, .int .i64 0, .int .i64 0, .slice none 0 0, .slice none 0 0, .int .i64 0, .int .i64 0] 76 (0, 0)) := ((box_farN w6 (w.heap.size + 1) w.heap.size 5 (.slice o2 g.length c2) (by omega)).trans rx5)
 have r1 : ((w6.setCell ⟨w.heap.size, 5, none⟩ (.slice o2 g.length c2)).setCell ⟨w.heap.size + 1, 0, none⟩ (.int .i64 a)).heap[w.heap.size + 1]? = some (.cells #[.int .i64 a, .int .i64 0, .int .i64 0, .int .i64 0, .slice none 0 0, .slice none 0 0, .int .i64 0, .int .i64 0] 76 (0, 0)) := box_set (w6.setCell ⟨w.heap.size, 5, none⟩ (.slice o2 g.length c2)) (w.heap.size + 1) 0 _ _ (.int .i64 a) r0
 have r2 : (((w6.setCell ⟨w.heap.size, 5, none⟩ (.slice o2 g.length c2)).setCell ⟨w.heap.size + 1, 0, none⟩ (.int .i64 a)).setCell ⟨w.heap.size + 1, 1, none⟩ (.int .i64 b)).heap[w.heap.size + 1]? = some (.cells #[.int .i64 a, .int .i64 b, .int .i64 0, .int .i64 0, .slice none 0 0, .slice none 0 0, .int .i64 0, .int .i64 0] 76 (0, 0)) := box_set ((w6.setCell ⟨w.heap.size, 5, none⟩ (.slice o2 g.length c2)).setCell ⟨w.heap.size + 1, 0, none⟩ (.int .i64 a)) (w.heap.size + 1) 1 _ _ (.int .i64 b) r1
 have r3 : ((((w6.setCell ⟨w.heap.size, 5, none⟩ (.slice o2 g.length c2)).setCell ⟨w.heap.size + 1, 0, none⟩ (.int .i64 a)).setCell ⟨w.heap.size + 1, 1, none⟩ (.int .i64 b)).setCell ⟨w.heap.size + 1, 2, none⟩ (.int .i64 f)).heap[w.heap.size + 1]? = some (.cells #[.int .i64 a, .int .i64 b, .int .i64 f, .int .i64 0, .slice none 0 0, .slice none 0 0, .int .i64 0, .int .i64 0] 76 (0, 0)) := box_set (((w6.setCell ⟨w.heap.size, 5, none⟩ (.slice o2 g.length c2)).setCell ⟨w.heap.size + 1, 0, none⟩ (.int .i64 a)).setCell ⟨w.heap.size + 1, 1, none⟩ (.int .i64 b)) (w.heap.size + 1) 2 _ _ (.int .i64 f) r2
 have r4 : (((((w6.setCell ⟨w.heap.size, 5, none⟩ (.slice o2 g.length c2)).setCell ⟨w.heap.size + 1, 0, none⟩ (.int .i64 a)).setCell ⟨w.heap.size + 1, 1, none⟩ (.int .i64 b)).setCell ⟨w.heap.size + 1, 2, none⟩ (.int .i64 f)).setCell ⟨w.heap.size + 1, 3, none⟩ (.int .i64 s)).heap[w.heap.size + 1]? = some (.cells #[.int .i64 a, .int .i64 b, .int .i64 f, .int .i64 s, .slice none 0 0, .slice none 0 0, .int .i64 0, .int .i64 0] 76 (0, 0)) := box_set ((((w6.setCell ⟨w.heap.size, 5, none⟩ (.slice o2 g.length c2)).setCell ⟨w.heap.size + 1, 0, none⟩ (.int .i64 a)).setCell ⟨w.heap.size + 1, 1, none⟩ (.int .i64 b)).setCell ⟨w.heap.size + 1, 2, none⟩ (.int .i64 f)) (w.heap.size + 1) 3 _ _ (.int .i64 s) r3
 have r5 : ((((((w6.setCell ⟨w.heap.size, 5, none⟩ (.slice o2 g.length c2)).setCell ⟨w.heap.size + 1, 0, none⟩ (.int .i64 a)).setCell ⟨w.heap.size + 1, 1, none⟩ (.int .i64 b)).setCell ⟨w.heap.size + 1, 2, none⟩ (.int .i64 f)).setCell ⟨w.heap.size + 1, 3, none⟩ (.int .i64 s)).setCell ⟨w.heap.size + 1, 4, none⟩ (.slice o1 l.length c1)).heap[w.heap.size + 1]? = some (.cells #[.int .i64 a, .int .i64 b, .int .i64 f, .int .i64 s, .slice o1 l.length c1, .slice none 0 0, .int .i64 0, .int .i64 0] 76 (0, 0)) := box_set (((((w6.setCell ⟨w.heap.size, 5, none⟩ (.slice o2 g.length c2)).setCell ⟨w.heap.size + 1, 0, none⟩ (.int .i64 a)).setCell ⟨w.heap.size + 1, 1, none⟩ (.int .i64 b)).setCell ⟨w.heap.size + 1, 2, none⟩ (.int .i64 f)).setCell ⟨w.heap.size + 1, 3, none⟩ (.int .i64 s)) (w.heap.size + 1) 4 _ _ (.slice o1 l.length c1) r4
 have r6 : (((((((w6.setCell ⟨w.heap.size, 5, none⟩ (.slice o2 g.length c2)).setCell ⟨w.heap.size + 1, 0, none⟩ (.int .i64 a)).setCell ⟨w.heap.size + 1, 1, none⟩ (.int .i64 b)).setCell ⟨w.heap.size + 1, 2, none⟩ (.int .i64 f)).setCell ⟨w.heap.size + 1, 3, none⟩ (.int .i64 s)).setCell ⟨w.heap.size + 1, 4, none⟩ (.slice o1 l.length c1)).setCell ⟨w.heap.size + 1, 5, none⟩ (.slice o2 g.length c2)).heap[w.heap.size + 1]? = some (.cells #[.int .i64 a, .int .i64 b, .int .i64 f, .int .i64 s, .slice o1 l.length c1, .slice o2 g.length c2, .int .i64 0, .int .i64 0] 76 (0, 0)) := box_set ((((((w6.setCell ⟨w.heap.size, 5, none⟩ (.slice o2 g.length c2)).setCell ⟨w.heap.size + 1, 0, none⟩ (.int .i64 a)).setCell ⟨w.heap.size + 1, 1, none⟩ (.int .i64 b)).setCell ⟨w.heap.size + 1, 2, none⟩ (.int .i64 f)).setCell ⟨w.heap.size + 1, 3, none⟩ (.int .i64 s)).setCell ⟨w.heap.size + 1, 4, none⟩ (.slice o1 l.length c1)) (w.heap.size + 1) 5 _ _ (.slice o2 g.length c2) r5
 have r7 : ((((((((w6.setCell ⟨w.heap.size, 5, none⟩ (.slice o2 g.length c2)).setCell ⟨w.heap.size + 1, 0, none⟩ (.int .i64 a)).setCell ⟨w.heap.size + 1, 1, none⟩ (.int .i64 b)).setCell ⟨w.heap.size + 1, 2, none⟩ (.int .i64 f)).setCell ⟨w.heap.size + 1, 3, none⟩ (.int .i64 s)).setCell ⟨w.heap.size + 1, 4, none⟩ (.slice o1 l.length c1)).setCell ⟨w.heap.size + 1, 5, none⟩ (.slice o2 g.length c2)).setCell ⟨w.heap.size + 1, 6, none⟩ (.int .i64 pl)).heap[w.heap.size + 1]? = some (.cells #[.int .i64 a, .int .i64 b, .int .i64 f, .int .i64 s, .slice o1 l.length c1, .slice o2 g.length c2, .int .i64 pl, .int .i64 0] 76 (0, 0)) := box_set (((((((w6.setCell ⟨w.heap.size, 5, none⟩ (.slice o2 g.length c2)).setCell ⟨w.heap.size + 1, 0, none⟩ (.int .i64 a)).setCell ⟨w.heap.size + 1, 1, none⟩ (.int .i64 b)).setCell ⟨w.heap.size + 1, 2, none⟩ (.int .i64 f)).setCell ⟨w.heap.size + 1, 3, none⟩ (.int .i64 s)).setCell ⟨w.heap.size + 1, 4, none⟩ (.slice o1 l.length c1)).setCell ⟨w.heap.size + 1, 5, none⟩ (.slice o2 g.length c2)) (w.heap.size + 1) 6 _ _ (.int .i64 pl) r6
 have r8 : (((((((((w6.setCell ⟨w.heap.size, 5, none⟩ (.slice o2 g.length c2)).setCell ⟨w.heap.size + 1, 0, none⟩ (.int .i64 a)).setCell ⟨w.heap.size + 1, 1, none⟩ (.int .i64 b)).setCell ⟨w.heap.size + 1, 2, none⟩ (.int .i64 f)).setCell ⟨w.heap.size + 1, 3, none⟩ (.int .i64 s)).setCell ⟨w.heap.size + 1, 4, none⟩ (.slice o1 l.length c1)).setCell ⟨w.heap.size + 1, 5, none⟩ (.slice o2 g.length c2)).setCell ⟨w.heap.size + 1, 6, none⟩ (.int .i64 pl)).setCell ⟨w.heap.size + 1, 7, none⟩ (.int .i64 st)).heap[w.heap.size + 1]? = some (.cells #[.int .i64 a, .int .i64 b, .int .i64 f, .int .i64 s, .slice o1 l.length c1, .slice o2 g.length c2, .int .i64 pl, .int .i64 st] 76 (0, 0)) := box_set ((((((((w6.setCell ⟨w.heap.size, 5, none⟩ (.slice o2 g.length c2)).setCell ⟨w.heap.size + 1, 0, none⟩ (.int .i64 a)).setCell ⟨w.heap.size + 1, 1, none⟩ (.int .i64 b)).setCell ⟨w.heap.size + 1, 2, none⟩ (.int .i64 f)).setCell ⟨w.heap.size + 1, 3, none⟩ (.int .i64 s)).setCell ⟨w.heap.size + 1, 4, none⟩ (.slice o1 l.length c1)).setCell ⟨w.heap.size + 1, 5, none⟩ (.slice o2 g.length c2)).setCell ⟨w.heap.size + 1, 6, none⟩ (.int .i64 pl)) (w.heap.size + 1) 7 _ _ (.int .i64 st) r7
 have rx9 : Hid ((((((((((w6.setCell ⟨w.heap.size, 5, none⟩ (.slice o2 g.length c2)).setCell ⟨w.heap.size + 1, 0, none⟩ (.int .i64 a)).setCell ⟨w.heap.size + 1, 1, none⟩ (.int .i64 b)).setCell ⟨w.heap.size + 1, 2, none⟩ (.int .i64 f)).setCell ⟨w.heap.size + 1, 3, none⟩ (.int .i64 s)).setCell ⟨w.heap.size + 1, 4, none⟩ (.slice o1 l.length c1)).setCell ⟨w.heap.size + 1, 5, none⟩ (.slice o2 g.length c2)).setCell ⟨w.heap.size + 1, 6, none⟩ (.int .i64 pl)).setCell ⟨w.heap.size + 1, 7, none⟩ (.int .i64 st)).heap[w.heap.size + 1]? = some (.cells #[.int .i64 a, .int .i64 b, .int .i64 f, .int .i64 s, .slice o1 l.length c1, .slice o2 g.length c2, .int .i64 pl, .int .i64 st] 76 (0, 0))) := r8
 clear r0 r1 r2 r3 r4 r5 r6 r7 r8
 have H1 : Hid (ownB (((((((((w6.setCell ⟨w.heap.size, 5, none⟩ (.slice o2 g.length c2)).setCell ⟨w.heap.size + 1, 0, none⟩ (.int .i64 a)).setCell ⟨w.heap.size + 1, 1, none⟩ (.int .i64 b)).setCell ⟨w.heap.size + 1, 2, none⟩ (.int .i64 f)).setCell ⟨w.heap.size + 1, 3, none⟩ (.int .i64 s)).setCell ⟨w.heap.size + 1, 4, none⟩ (.slice o1 l.length c1)).setCell ⟨w.heap.size + 1, 5, none⟩ (.slice o2 g.length c2)).setCell ⟨w.heap.size + 1, 6, none⟩ (.int .i64 pl)).setCell ⟨w.heap.size + 1, 7, none⟩ (.int .i64 st)) (w.heap.size + 2) (.slice o1 l.length c1) l) := by
  show ownB _ _ _ _
  repeat (refine ownsRow_setCell_below ?_ (by simp) _)
  exact HV1.out
 have H2 : Hid (ownG (((((((((w6.setCell ⟨w.heap.size, 5, none⟩ (.slice o2 g.length c2)).setCell ⟨w.heap.size + 1, 0, none⟩ (.int .i64 a)).setCell ⟨w.heap.size + 1, 1, none⟩ (.int .i64 b)).setCell ⟨w.heap.size + 1, 2, none⟩ (.int .i64 f)).setCell ⟨w.heap.size + 1, 3, none⟩ (.int .i64 s)).setCell ⟨w.heap.size + 1, 4, none⟩ (.slice o1 l.length c1)).setCell ⟨w.heap.size + 1, 5, none⟩ (.slice o2 g.length c2)).setCell ⟨w.heap.size + 1, 6, none⟩ (.int .i64 pl)).setCell ⟨w.heap.size + 1, 7, none⟩ (.int .i64 st)) (w.heap.size + 2) (.slice o2 g.length c2) g) := by
  show ownG _ _ _ _
  repeat (refine ownsRow_setCell_below ?_ (by simp) _)
  exact HV2.out
 have H3 : Hid (Below w.heap.size w (((((((((w6.setCell ⟨w.heap.size, 5, none⟩ (.slice o2 g.length c2)).setCell ⟨w.heap.size + 1, 0, none⟩ (.int .i64 a)).setCell ⟨w.heap.size + 1, 1, none⟩ (.int .i64 b)).setCell ⟨w.heap.size + 1, 2, none⟩ (.int .i64 f)).setCell ⟨w.heap.size + 1, 3, none⟩ (.int .i64 s)).setCell ⟨w.heap.size + 1, 4, none⟩ (.slice o1 l.length c1)).setCell ⟨w.heap.size + 1, 5, none⟩ (.slice o2 g.length c2)).setCell ⟨w.heap.size + 1, 6, none⟩ (.int .i64 pl)).setCell ⟨w.heap.size + 1, 7, none⟩ (.int .i64 st))) := by
  show Below _ _ _
  repeat (refine Below.setCell ?_ (by simp) _)
  exact HB6.out
 clear rx5
 go_wp2
 generalize (((((((((w6.setCell ⟨w.heap.size, 5, none⟩ (.slice o2 g.length c2)).setCell ⟨w.heap.size + 1, 0, none⟩ (.int .i64 a)).setCell ⟨w.heap.size + 1, 1, none⟩ (.int .i64 b)).setCell ⟨w.heap.size + 1, 2, none⟩ (.int .i64 f)).setCell ⟨w.heap.size + 1, 3, none⟩ (.int .i64 s)).setCell ⟨w.heap.size + 1, 4, none⟩ (.slice o1 l.length c1)).setCell ⟨w.heap.size + 1, 5, none⟩ (.slice o2 g.length c2)).setCell ⟨w.heap.size + 1, 6, none⟩ (.int .i64 pl)).setCell ⟨w.heap.size + 1, 7, none⟩ (.int .i64 st)) = w9 at *
 have z0 : w9.cell? ⟨w.heap.size + 1, 0, none⟩ = some (.int .i64 a) := block_cell rx9.out 0 _ rfl
 have z1 : w9.cell? ⟨w.heap.size + 1, 1, none⟩ = some (.int .i64 b) := block_cell rx9.out 1 _ rfl
 have z2 : w9.cell? ⟨w.heap.size + 1, 2, none⟩ = some (.int .i64 f) := block_cell rx9.out 2 _ rfl
 have z3 : w9.cell? ⟨w.heap.size + 1, 3, none⟩ = some (.int .i64 s) := block_cell rx9.out 3 _ rfl
 have z4 : w9.cell? ⟨w.heap.size + 1, 4, none⟩ = some (.slice o1 l.length c1) := block_cell rx9.out 4 _ rfl
 have z5 : w9.cell? ⟨w.heap.size + 1, 5, none⟩ = some (.slice o2 g.length c2) := block_cell rx9.out 5 _ rfl
 have z6 : w9.cell? ⟨w.heap.size + 1, 6, none⟩ = some (.int .i64 pl) := block_cell rx9.out 6 _ rfl
 have z7 : w9.cell? ⟨w.heap.size + 1, 7, none⟩ = some (.int .i64 st) := block_cell rx9.out 7 _ rfl
 refine bodyPost_ret (v := crr a b f s (.slice o1 l.length c1) (.slice o2 g.length c2) pl st) (by simp [results, Tryz.results82, go_sem, z0, z1, z2, z3, z4, z5, z6, z7]) rfl ⟨_, _, rfl, ?_, ?_, ?_⟩
 ·exact own_mono (base := w.heap.size + 2) H1.out (by omega)
 ·exact own_mono (base := w.heap.size + 2) H2.out (by omega)
 ·exact H3.out

end Go.Proofs.YtajfkcpifnpkeaaGreat

/- The laws' marks: a row is filled with numbers that go up, and held against them. -/
namespace Go.Proofs.YtajfkcpifnpkeaaGreat
open Go.ChangeShapes Go.WideShapes Go.ChangeAt Go.RowKit Go.Joins
set_option linter.unusedVariables false
set_option linter.unusedSimpArgs false

def markL (k : Int) (n : Nat) : List Int := (List.range n).map (fun (i : Nat) => (k + (i : Int)) % 256)
theorem markL_length (k : Int) (n : Nat) : (markL k n).length = n := by simp [markL]
theorem markL_get (k : Int) (n i : Nat) (h : i < n) : (markL k n).getD i 0 = (k + (i : Int)) % 256 := by simp [markL, h]
def markTo (l : List Int) (k : Int) (i : Nat) : List Int := markL k i ++ l.drop i
theorem markTo_zero (l : List Int) (k : Int) : markTo l k 0 = l := by simp [markTo, markL]
theorem markTo_all (l : List Int) (k : Int) : markTo l k l.length = markL k l.length := by simp [markTo]
theorem markTo_length (l : List Int) (k : Int) (i : Nat) (h : i ≤ l.length) : (markTo l k i).length = l.length := by simp [markTo, markL]; omega
theorem markTo_set (l : List Int) (k : Int) (i : Nat) (h : i < l.length) : ((markTo l k i).map (Value.int .u8)).set i (.int .u8 ((k + (i : Int)) % 256)) = (markTo l k (i + 1)).map (Value.int .u8) := by
 rw [← List.map_set]
 congr 1
 have e2 : (markL k i).length = i := markL_length k i
 unfold markTo
 rw [List.drop_eq_getElem_cons h, List.set_append_right _ _ (by omega), e2, Nat.sub_self, List.set_cons_zero]
 have e3 : markL k (i + 1) = markL k i ++ [(k + (i : Int)) % 256] := by simp [markL, List.range_succ]
 rw [e3, List.append_assoc]
 rfl

theorem mark_step {w wr : World} {base g cap : Nat} {l : List Int} {k : Int} {i : Nat} (hi : i < l.length) (hown : wr.ownsRow base 5 1 (.slice (some ⟨g, 0, none⟩) l.length cap) l.length ((markTo l k i).map (Value.int .u8)))
  (hg : w.grownBy wr (some g)) : (wr.setCell ⟨g, i, none⟩ (.int .u8 ((k + (i : Int)) % 256))).ownsRow base 5 1 (.slice (some ⟨g, 0, none⟩) l.length cap) l.length ((markTo l k (i + 1)).map (Value.int .u8)) ∧
   w.grownBy (wr.setCell ⟨g, i, none⟩ (.int .u8 ((k + (i : Int)) % 256))) (some g) := by
 have h := hown.stored i (.int .u8 ((k + (i : Int)) % 256))
 rw [markTo_set l k i hi] at h
 exact ⟨h.1, ⟨hg.os, hg.tape, hg.output, by have := h.2.size; have := hg.size; omega, fun j hj hne => (h.2.block j (Nat.lt_of_lt_of_le hj hg.size) hne).trans (hg.block j hj hne)⟩⟩

set_option maxHeartbeats 1000000 in
theorem markByteS_any (base : Nat) (v : Value) (l : List Int) (k : Int) (w : World) (hv : ownB w base v l) (h0 : 0 ≤ k) (h1 : k ≤ 1073741824) (hlen : l.length ≤ 1048576) :
  Calls Tryz.prog 79 #[v, .int .i64 k] w fun e w' => e = .returned (.int .i64 (k + l.length)) ∧ ownB w' base v (markL k l.length) ∧ w.grownBy w' v.ownBlock := by
 rcases hv.2 with ⟨rfl, h2⟩ | ⟨g, cap, cur, rfl, hg, _⟩
 ·have e : l = [] := List.eq_nil_of_length_eq_zero h2
  subst e
  go_enter Tryz.func79, Tryz.ntmps79
  go_wp2
  refine wp_loop_rounds 1 ?_
  rw [rounds_succ]
  go_wp2
  go_ret
  exact ⟨by simp, by simpa [markL] using hv, World.grownBy.refl _ _⟩
 ·go_enter Tryz.func79, Tryz.ntmps79
  go_wp2
  have hv0 : w.ownsRow base 5 1 (.slice (some ⟨g, 0, none⟩) l.length cap) l.length ((markTo l k 0).map (Value.int .u8)) := by rw [markTo_zero]; exact hv
  go_loopw [1, 5] (fun m j wr => ∃ i : Nat, i ≤ l.length ∧ j = .int .i64 i ∧ m = .int .i64 (k + (i : Int)) ∧ wr.ownsRow base 5 1 (.slice (some ⟨g, 0, none⟩) l.length cap) l.length ((markTo l k i).map (Value.int .u8)) ∧ w.grownBy wr (some g))
   (fun _ j _ => l.length - (intOf j).toNat)
  case atStart => exact ⟨0, Nat.zero_le _, rfl, by simp, hv0, World.grownBy.refl _ _⟩
  case round =>
   obtain ⟨i, hi, rfl, rfl, hown, hgr⟩ := hrel
   by_cases hlt : i < l.length
   ·have hcl := hown.cellAt i (by omega)
    have hfr := hown.frozenAt i
    obtain ⟨u, hu⟩ : ∃ u, wr.cell? ⟨g, i, none⟩ = some u := ⟨_, hcl.trans (List.getElem?_eq_getElem (by simp [markTo_length l k i hi]; omega))⟩
    have R := hide (mark_step hlt hown hgr)
    clear hcl hown hgr hv hv0
    go_wp2
    go_roundw
    case rel => exact ⟨i + 1, by omega, by go_num, by go_num, R.out.1, R.out.2⟩
    case measure => simp [intOf]; omega
   ·have e : i = l.length := by omega
    subst e
    rw [markTo_all] at hown
    have HO := hide hown
    clear hown
    go_wp2
    go_ret
    exact ⟨rfl, by unfold ownB; rw [markL_length]; exact HO.out, hgr⟩

set_option maxHeartbeats 1000000 in
theorem heldByteS_any (o : Option Addr) (cap n : Nat) (k : Int) (w : World) (hR : Rd w o (markL k n)) (h0 : 0 ≤ k) (h1 : k ≤ 1073741824) (hlen : n ≤ 1048576) :
  Calls Tryz.prog 144 #[.slice o n cap, .int .i64 k] w fun e w' => e = .returned (.int .i64 (k + n)) ∧ w = w' := by
 go_enter Tryz.func144, Tryz.ntmps144
 go_wp2
 go_loop [1, 5] (fun m j => ∃ i : Nat, i ≤ n ∧ j = .int .i64 i ∧ m = .int .i64 (k + (i : Int)))
  (fun _ j => n - (intOf j).toNat)
 case atStart => exact ⟨0, Nat.zero_le _, rfl, by simp⟩
 case round =>
  obtain ⟨i, hi, rfl, rfl⟩ := hrel
  by_cases hlt : i < n
  ·rcases hR with hR | ⟨b, off, rfl, hbl, hcell⟩
   ·have := markL_length k n; rw [hR] at this; simp at this; omega
   have hc := hcell i (by rw [markL_length]; exact hlt)
   rw [markL_get k n i hlt] at hc
   clear hcell
   go_wp2
   go_round
   case rel => exact ⟨i + 1, by omega, by go_num, by go_num⟩
   case measure => simp [intOf]; omega
  ·have e : i = n := by omega
   subst e
   go_wp2
   go_ret
   exact ⟨rfl, rfl⟩

end Go.Proofs.YtajfkcpifnpkeaaGreat

/- Bytes by layout, and the laws' own helpers over them, in the words of Fr. -/
namespace Go.Proofs.YtajfkcpifnpkeaaGreat
open Go.ChangeShapes Go.WideShapes Go.ChangeAt Go.RowKit Go.Joins
set_option linter.unusedVariables false
set_option linter.unusedSimpArgs false

def layB : Lay Int := ⟨1, fun a => [.int .u8 a], 0, fun _ => rfl⟩
theorem flat_bytes : ∀ l : List Int, l.flatMap layB.cs = l.map (Value.int .u8)
 | [] => rfl
 | a :: l => by rw [List.flatMap_cons, flat_bytes l]; rfl
theorem ownB_lay {w : World} {base : Nat} {v : Value} {l : List Int} : ownB w base v l ↔ ownL layB 5 w base v l := by
 unfold ownB ownL; rw [flat_bytes]; exact Iff.rfl
theorem RdB_lay {C : Nat} {w : World} {o : Option Addr} {l : List Int} : RdB C w o l ↔ RdL layB C w o l := by
 constructor
 ·rintro (h | ⟨b, off, ho, hb, r⟩)
  ·exact .inl h
  ·refine .inr ⟨b, off, ho, hb, fun i hi j hj => ?_⟩
   have hj0 : j = 0 := by have : j < 1 := hj; omega
   subst hj0
   have := r i hi
   rw [show layB.k = 1 from rfl, Nat.mul_one, Nat.add_zero]
   exact this
 ·rintro (h | ⟨b, off, ho, hb, r⟩)
  ·exact .inl h
  ·refine .inr ⟨b, off, ho, hb, fun i hi => ?_⟩
   have := r i hi 0 (by decide)
   rw [show layB.k = 1 from rfl, Nat.mul_one, Nat.add_zero] at this
   exact this
theorem RdB_rd {w : World} {o : Option Addr} {l : List Int} : RdL layB w.heap.size w o l ↔ Rd w o l := RdB_lay.symm
abbrev InB := InL layB 5
theorem InB.of {w : World} {base : Nat} {v : Value} {l : List Int} (h : ownB w base v l) : InB base w.heap.size w v l := InRow.of (ownB_lay.1 h)

end Go.Proofs.YtajfkcpifnpkeaaGreat

/- Next on both sides. -/
namespace Go.Proofs.YtajfkcpifnpkeaaGreat
open Go.ChangeShapes Go.WideShapes Go.ChangeAt Go.RowKit Go.Joins
set_option linter.unusedVariables false
set_option linter.unusedSimpArgs false

/-- What is carried, as the model has it. -/
structure Cm where
 a : Int
 b : Int
 f : Int
 s : Int
 l : List Int
 g : List (Int × Int)
 pl : Int
 st : Int
def Cm.zero : Cm := ⟨0, 0, 0, 0, [], [], 0, 0⟩
def Cm.ok (c : Cm) : Bool := carrierOkB c.a c.b c.f c.s c.l.length c.g c.pl c.st
/-- A carrier that a call hands out, of its own memory. -/
def ownCm (w : World) (base : Nat) (v : Value) (m : Cm) : Prop := ∃ vl vg, v = crr m.a m.b m.f m.s vl vg m.pl m.st ∧ ownB w base vl m.l ∧ ownG w base vg m.g
end Go.Proofs.YtajfkcpifnpkeaaGreat

/- The laws' marks in a packet. -/
namespace Go.Proofs.YtajfkcpifnpkeaaGreat
open Go.ChangeShapes Go.WideShapes Go.ChangeAt Go.RowKit Go.Joins
set_option linter.unusedVariables false
set_option linter.unusedSimpArgs false

set_option maxHeartbeats 1000000 in
theorem markPacket_any (base : Nat) (a b f s : Int) (v : Value) (l : List Int) (k : Int) (w : World) (hv : ownB w base v l) (h0 : 0 ≤ k) (h1 : k ≤ 1073741824) (hlen : l.length ≤ 1048576) :
  Calls Tryz.prog 27 #[pkt a b f s v, .int .i64 k] w fun e w' => e = .returned (.int .i64 (k + l.length)) ∧ ownB w' base v (markL k l.length) ∧ w.grownBy w' v.ownBlock := by
 have hv1 := fun o => World.ownsRow.alloc hv o
 have HA := hide (fun o => World.grownBy_alloc w o v.ownBlock)
 have HV := hide hv1
 clear hv1 hv
 go_enter Tryz.func27, Tryz.ntmps27
 go_wp2_with fail
 refine (markByteS_any base v l k _ (HV.out _) h0 h1 hlen).mono ?_
 rintro e w1 ⟨rfl, hown, hgr⟩
 have HO := hide hown
 have HG := hide ((HA.out _).trans hgr)
 clear hown hgr HV HA
 go_wp2
 go_ret
 exact ⟨rfl, HO.out, HG.out⟩

set_option maxHeartbeats 1000000 in
theorem heldPacket_any (a b f s : Int) (o : Option Addr) (cap n : Nat) (k : Int) (w : World) (hR : Rd w o (markL k n)) (h0 : 0 ≤ k) (h1 : k ≤ 1073741824) (hlen : n ≤ 1048576) :
  Calls Tryz.prog 85 #[pkt a b f s (.slice o n cap), .int .i64 k] w fun e w' => e = .returned (.int .i64 (k + n)) ∧ Below w.heap.size w w' := by
 have hB : Below w.heap.size w w := Below.refl _ _
 go_enter Tryz.func85, Tryz.ntmps85
 go_wp2_with fail
 refine (heldByteS_any o cap n k _ (hR.kept (by (repeat (first | with_reducible exact hB | with_reducible exact Below.refl _ _ | with_reducible refine Below.drew ?_ | with_reducible refine below_drewN ?_ _ | with_reducible refine Below.alloc ?_ ?_ _ | with_reducible refine Below.setCell ?_ ?_ _ | (focus (simp; done)) | (focus (simp; omega)) | omega)))) h0 h1 hlen).mono ?_
 rintro e w1 ⟨rfl, rfl⟩
 go_wp2
 go_ret
 exact ⟨rfl, by (repeat (first | with_reducible exact hB | with_reducible exact Below.refl _ _ | with_reducible refine Below.drew ?_ | with_reducible refine below_drewN ?_ _ | with_reducible refine Below.alloc ?_ ?_ _ | with_reducible refine Below.setCell ?_ ?_ _ | (focus (simp; done)) | (focus (simp; omega)) | omega))⟩

end Go.Proofs.YtajfkcpifnpkeaaGreat

/- The laws' marks in a row of impl.Seg. -/
namespace Go.Proofs.YtajfkcpifnpkeaaGreat
open Go.ChangeShapes Go.WideShapes Go.ChangeAt Go.RowKit Go.Joins
set_option linter.unusedVariables false
set_option linter.unusedSimpArgs false

def mkSeg (k : Int) := ((k, k + 1) : _)

set_option maxHeartbeats 2000000 in
theorem markSegS_any (base : Nat) (v : Value) (l : List _) (k : Int) (w : World) (hv : ownL layG 126 w base v l) (h0 : 0 ≤ k) (h1 : k ≤ 1073741824) (hlen : l.length ≤ 1048576) :
  Calls Tryz.prog 28 #[v, .int .i64 k] w fun e w' => e = .returned (.int .i64 (k + 2 * l.length)) ∧ ownL layG 126 w' base v (mkL mkSeg 2 k l.length) ∧ w.grownBy w' v.ownBlock := by
 rcases hv.2 with ⟨rfl, h2⟩ | ⟨g, cap, cur, rfl, hg, _⟩
 ·have e : l = [] := List.eq_nil_of_length_eq_zero h2
  subst e
  go_enter Tryz.func28, Tryz.ntmps28
  go_wp2
  refine wp_loop_rounds 1 ?_
  rw [rounds_succ]
  go_wp2
  go_ret
  exact ⟨by simp, by simpa [mkL] using hv, World.grownBy.refl _ _⟩
 ·have hv0 : w.ownsRow base 126 2 (.slice (some ⟨g, 0, none⟩) l.length cap) l.length ((mkTo mkSeg 2 l k 0).flatMap layG.cs) := by rw [mkTo_zero]; exact hv
  go_enter Tryz.func28, Tryz.ntmps28
  go_wp2
  go_loopw [1, 5] (fun q j wr => ∃ i : Nat, i ≤ l.length ∧ j = .int .i64 i ∧ q = .int .i64 (k + 2 * (i : Int)) ∧ wr.ownsRow base 126 2 (.slice (some ⟨g, 0, none⟩) l.length cap) l.length ((mkTo mkSeg 2 l k i).flatMap layG.cs) ∧ w.grownBy wr (some g))
   (fun _ j _ => l.length - (intOf j).toNat)
  case atStart => exact ⟨0, Nat.zero_le _, rfl, by simp, hv0, World.grownBy.refl _ _⟩
  case round =>
   obtain ⟨i, hi, rfl, rfl, hown, hgr⟩ := hrel
   by_cases hlt : i < l.length
   ·have hxl : ((mkTo mkSeg 2 l k i).flatMap layG.cs).length = l.length * 2 := by rw [flat_length, mkTo_length _ _ _ _ _ hi]; rfl
    have E := flat_set2 layG rfl (a := mkSeg (k + 2 * (i : Int))) rfl (mkTo mkSeg 2 l k i) i
    have E2 := mkTo_set mkSeg 2 l k i hlt
    generalize hxs : (mkTo mkSeg 2 l k i).flatMap layG.cs = xs at *
    have s1 := grown_set1 (j := i * 2) (u := .int .i64 (k + 2 * (i : Int))) hown hgr
    have s2 := grown_set1 (j := i * 2 + 1) (u := .int .i64 (k + 2 * (i : Int) + 1)) s1.1 s1.2
    have f0 := hown.frozenAt (i * 2)
    obtain ⟨q0, hq0⟩ : ∃ z, wr.cell? ⟨g, i * 2, none⟩ = some z := ⟨_, (hown.cellAt (i * 2) (by omega)).trans (List.getElem?_eq_getElem (by (try simp) <;> omega))⟩
    have f1 := s1.1.frozenAt (i * 2 + 1)
    obtain ⟨q1, hq1⟩ : ∃ z, (wr.setCell ⟨g, i * 2, none⟩ (.int .i64 (k + 2 * (i : Int)))).cell? ⟨g, i * 2 + 1, none⟩ = some z := ⟨_, (s1.1.cellAt (i * 2 + 1) (by omega)).trans (List.getElem?_eq_getElem (by (try simp) <;> omega))⟩
    have S := hide s2
    have HE := hide (E.trans (congrArg (fun z => List.flatMap layG.cs z) E2))
    have z1 : (i : Int) < (l.length : Int) := by omega
    clear s1 s2 hown hgr hv hv0 E E2 hxl
    go_wp2
    go_roundw
    case rel =>
     refine ⟨i + 1, by omega, by go_num, by go_num, ?_, S.out.2⟩
     have h := S.out.1
     rw [← HE.out]
     exact h
    case measure => simp [intOf]; omega
   ·have e : i = l.length := by omega
    subst e
    rw [mkTo_all] at hown
    have HO := hide hown
    clear hown
    go_wp2
    go_ret
    exact ⟨rfl, (by have := HO.out; unfold ownL; rw [mkL_length]; exact this), hgr⟩

set_option maxHeartbeats 2000000 in
theorem heldSegS_any (o : Option Addr) (cap n C : Nat) (k : Int) (w : World) (hR : RdL layG C w o (mkL mkSeg 2 k n)) (h0 : 0 ≤ k) (h1 : k ≤ 1073741824) (hlen : n ≤ 1048576) :
  Calls Tryz.prog 29 #[.slice o n cap, .int .i64 k] w fun e w' => e = .returned (.int .i64 (k + 2 * n)) ∧ w = w' := by
 go_enter Tryz.func29, Tryz.ntmps29
 go_wp2
 go_loop [1, 5] (fun q j => ∃ i : Nat, i ≤ n ∧ j = .int .i64 i ∧ q = .int .i64 (k + 2 * (i : Int)))
  (fun _ j => n - (intOf j).toNat)
 case atStart => exact ⟨0, Nat.zero_le _, rfl, by simp⟩
 case round =>
  obtain ⟨i, hi, rfl, rfl⟩ := hrel
  by_cases hlt : i < n
  ·rcases hR with hR | ⟨b, off, rfl, hbl, hcell⟩
   ·have := mkL_length mkSeg 2 k n; rw [hR] at this; simp at this; omega
   have hc := hcell i (by rw [mkL_length]; exact hlt)
   rw [mkL_get _ _ _ _ _ _ hlt] at hc
   have c0 : w.cell? ⟨b, off + i * 2, none⟩ = some (.int .i64 (k + 2 * (i : Int))) := hc 0 (by decide)
   have c1 : w.cell? ⟨b, off + i * 2 + 1, none⟩ = some (.int .i64 (k + 2 * (i : Int) + 1)) := hc 1 (by decide)
   clear hcell hc
   go_wp2
   go_round
   case rel => exact ⟨i + 1, by omega, by go_num, by go_num⟩
   case measure => simp [intOf]; omega
  ·have e : i = n := by omega
   subst e
   go_wp2
   go_ret
   exact ⟨rfl, rfl⟩

end Go.Proofs.YtajfkcpifnpkeaaGreat

/- What is carried, as a shape: how it reads, what owns its memory, and the laws' own helpers over it. -/
namespace Go.Proofs.YtajfkcpifnpkeaaGreat
open Go.ChangeShapes Go.WideShapes Go.ChangeAt Go.RowKit Go.Joins
set_option linter.unusedVariables false
set_option linter.unusedSimpArgs false

abbrev InG := InL layG 126
theorem InG.of {w : World} {base : Nat} {v : Value} {l : List (Int × Int)} (h : ownG w base v l) : InG base w.heap.size w v l := InRow.of (ownG_lay.1 h)
theorem RdG_rd {w : World} {o : Option Addr} {l : List (Int × Int)} : RdL layG w.heap.size w o l ↔ RdG w o l := by
 constructor
 ·rintro (h | ⟨b, off, ho, hb, r⟩)
  ·exact .inl h
  ·exact .inr ⟨b, off, ho, hb, fun i hi => ⟨r i hi 0 (by decide), r i hi 1 (by decide)⟩⟩
 ·exact RdG.lay
def RdCm (C : Nat) (w : World) (v : Value) (m : Cm) : Prop := ∃ vl vg, v = crr m.a m.b m.f m.s vl vg m.pl m.st ∧ RdV layB C w vl m.l ∧ RdV layG C w vg m.g
def InCm (lo hi : Nat) (w : World) (v : Value) (m : Cm) : Prop := ∃ vl vg, v = crr m.a m.b m.f m.s vl vg m.pl m.st ∧ InB lo hi w vl m.l ∧ InG lo hi w vg m.g
theorem RdCm.kept {C D : Nat} {w w' : World} {v : Value} {m : Cm} (h : RdCm C w v m) (hb : Below D w w') (hc : C ≤ D) : RdCm C w' v m := by
 obtain ⟨vl, vg, e, h1, h2⟩ := h
 exact ⟨vl, vg, e, h1.kept hb hc, h2.kept hb hc⟩
theorem RdCm.le {C D : Nat} {w : World} {v : Value} {m : Cm} (h : RdCm C w v m) (hc : C ≤ D) : RdCm D w v m := by
 obtain ⟨vl, vg, e, h1, h2⟩ := h
 exact ⟨vl, vg, e, h1.le hc, h2.le hc⟩
theorem InCm.rd {lo hi : Nat} {w : World} {v : Value} {m : Cm} (h : InCm lo hi w v m) : RdCm hi w v m := by
 obtain ⟨vl, vg, e, h1, h2⟩ := h
 exact ⟨vl, vg, e, h1.rd, h2.rd⟩
theorem InCm.step {a b lo hi : Nat} {w w' : World} {v : Value} {m : Cm} (h : InCm a b w v m) (s : Stp lo hi w w') (hd : hi ≤ a ∨ b ≤ lo) : InCm a b w' v m := by
 obtain ⟨vl, vg, e, h1, h2⟩ := h
 exact ⟨vl, vg, e, h1.step s hd, h2.step s hd⟩
theorem InCm.mono {lo hi lo' hi' : Nat} {w : World} {v : Value} {m : Cm} (h : InCm lo hi w v m) (h1 : lo' ≤ lo) (h2 : hi ≤ hi') : InCm lo' hi' w v m := by
 obtain ⟨vl, vg, e, q1, q2⟩ := h
 exact ⟨vl, vg, e, q1.mono h1 h2, q2.mono h1 h2⟩
theorem InCm.of {w : World} {base : Nat} {v : Value} {m : Cm} (h : ownCm w base v m) : InCm base w.heap.size w v m := by
 obtain ⟨vl, vg, e, h1, h2⟩ := h
 exact ⟨vl, vg, e, InB.of h1, InG.of h2⟩
/-- Its lists of nothing have no room. -/
def capCm (v : Value) : Prop := ∃ a b f s vl vg pl st, v = crr a b f s vl vg pl st ∧ capV vl ∧ capV vg
theorem InCm.cap {lo hi : Nat} {w : World} {v : Value} {m : Cm} (h : InCm lo hi w v m) : capCm v := by
 obtain ⟨vl, vg, e, h1, h2⟩ := h
 exact ⟨_, _, _, _, vl, vg, _, _, e, InRow.cap h1, InRow.cap h2⟩
theorem capCm.two {a b f s : Int} {o og : Option Addr} {n c ng cg : Nat} {pl st : Int} (h : capCm (crr a b f s (.slice o n c) (.slice og ng cg) pl st)) : (o = none → c = 0) ∧ (og = none → cg = 0) := by
 obtain ⟨a', b', f', s', vl, vg, pl', st', e, h1, h2⟩ := h
 injection e with e
 simp at e
 obtain ⟨_, _, _, _, e5, e6, _, _⟩ := e
 exact ⟨fun h => h1 n c (by rw [← e5, h]), fun h => h2 ng cg (by rw [← e6, h])⟩
theorem eqCarrier_sh (v1 v2 : Value) (m : Cm) (w : World) (h1 : RdCm w.heap.size w v1 m) (h2 : RdCm w.heap.size w v2 m) (hl : m.l.length ≤ 1048576) (hg : m.g.length ≤ 1048576) :
  Calls Tryz.prog 32 #[v1, v2] w fun e w' => e = .returned (.bool true) ∧ Below w.heap.size w w' := by
 obtain ⟨vl, vg, rfl, ⟨o, c, rfl, r⟩, ⟨og, cg, rfl, rg⟩⟩ := h1
 obtain ⟨vl2, vg2, rfl, ⟨o2, c2, rfl, r2⟩, ⟨og2, cg2, rfl, rg2⟩⟩ := h2
 exact eqCarrier_same m.a m.b m.f m.s o o2 og og2 c c2 cg cg2 m.l m.g m.pl m.st w (RdB_rd.1 r) (RdB_rd.1 r2) hl (RdG_rd.1 rg) (RdG_rd.1 rg2) hg

/-- The marks of a carrier. -/
def mkCm (k : Int) (m : Cm) : Cm := { m with l := markL k m.l.length, g := mkL mkSeg 2 (k + m.l.length) m.g.length }
theorem u8Seg : (5 : TypeId) ≠ 126 := by decide

set_option maxHeartbeats 1000000 in
theorem markCarrier_sh (lo hi : Nat) (v : Value) (m : Cm) (k : Int) (w : World) (hv : InCm lo hi w v m) (h0 : 0 ≤ k) (h1 : k ≤ 10000000) (hl : m.l.length ≤ 1048576) (hg : m.g.length ≤ 1048576) :
  Calls Tryz.prog 33 #[v, .int .i64 k] w fun e w' => e = .returned (.int .i64 (k + m.l.length + 2 * m.g.length)) ∧ InCm lo hi w' v (mkCm k m) ∧ Stp lo hi w w' := by
 obtain ⟨vl, vg, rfl, iv, ig⟩ := hv
 have sA : ∀ o : Obj, Stp lo hi w (w.alloc o) := fun o => Stp.of ((Below.refl _ _).alloc (Nat.le_refl _) o)
 have iv1 := fun o : Obj => (⟨World.ownsRow.alloc iv.1 o, iv.2⟩ : InB lo hi (w.alloc o) vl m.l)
 have ig1 := fun o : Obj => (⟨World.ownsRow.alloc ig.1 o, ig.2⟩ : InG lo hi (w.alloc o) vg m.g)
 obtain ⟨og, cg, hge, _⟩ := ig.rd
 obtain ⟨ol, cl, hle, _⟩ := iv.rd
 have HS := hide sA
 have HV := hide iv1
 have HG := hide ig1
 clear sA iv1 ig1
 have HIV := hide iv
 have HIG := hide ig
 clear iv ig
 subst hge hle
 go_enter Tryz.func33, Tryz.ntmps33
 go_wp2_with fail
 have s1 := HS.out (.cells #[.int .i64 m.a, .int .i64 m.b, .int .i64 m.f, .int .i64 m.s, .slice ol m.l.length cl, .slice og m.g.length cg, .int .i64 m.pl, .int .i64 m.st] 76)
 have i1 := HV.out (.cells #[.int .i64 m.a, .int .i64 m.b, .int .i64 m.f, .int .i64 m.s, .slice ol m.l.length cl, .slice og m.g.length cg, .int .i64 m.pl, .int .i64 m.st] 76)
 have g1 := HG.out (.cells #[.int .i64 m.a, .int .i64 m.b, .int .i64 m.f, .int .i64 m.s, .slice ol m.l.length cl, .slice og m.g.length cg, .int .i64 m.pl, .int .i64 m.st] 76)
 have bx := World.alloc_heap_new w (.cells #[.int .i64 m.a, .int .i64 m.b, .int .i64 m.f, .int .i64 m.s, .slice ol m.l.length cl, .slice og m.g.length cg, .int .i64 m.pl, .int .i64 m.st] 76)
 have hz : w.heap.size < (w.alloc (.cells #[.int .i64 m.a, .int .i64 m.b, .int .i64 m.f, .int .i64 m.s, .slice ol m.l.length cl, .slice og m.g.length cg, .int .i64 m.pl, .int .i64 m.st] 76)).heap.size := by simp
 generalize w.alloc (.cells #[.int .i64 m.a, .int .i64 m.b, .int .i64 m.f, .int .i64 m.s, .slice ol m.l.length cl, .slice og m.g.length cg, .int .i64 m.pl, .int .i64 m.st] 76) = w1 at *
 refine (markPacket_any lo m.a m.b m.f m.s _ m.l k w1 (ownB_lay.2 i1.1) h0 (by omega) hl).mono ?_
 rintro e w2 ⟨rfl, hown, hgr⟩
 have s2 : Stp lo hi w1 w2 := Stp.grown hgr (fun b e => ⟨(i1.1.lt b e).1, i1.2 b e⟩)
 have nb : ∀ b, (Value.slice ol m.l.length cl).ownBlock = some b → b < w.heap.size := fun b e => (HIV.out.1.lt b e).2
 replace bx := (hgr.block w.heap.size hz (fun e => by have := nb _ e.symm; omega)).trans bx
 have g2 : InG lo hi w2 (.slice og m.g.length cg) m.g := InRow.kept g1 hgr (own_apart0 g1.1 i1.1 (Ne.symm u8Seg))
 have i2 : InB lo hi w2 (.slice ol m.l.length cl) (markL k m.l.length) := ⟨ownB_lay.1 hown, i1.2⟩
 have c5 : w2.cell? ⟨w.heap.size, 5, none⟩ = some (.slice og m.g.length cg) := block_cell bx 5 _ rfl
 have H := hide (And.intro i2 (And.intro g2 (s1.trans s2)))
 clear i1 g1 s1 s2 hown hgr HS HV HG HIV HIG nb bx i2 g2
 go_wp2_with fail
 refine (markSegS_any lo _ m.g (k + m.l.length) w2 H.out.2.1.1 (by omega) (by omega) hg).mono ?_
 rintro e w3 ⟨rfl, ho3, hg3⟩
 have H3 : Hid (InCm lo hi w3 (crr m.a m.b m.f m.s (.slice ol m.l.length cl) (.slice og m.g.length cg) m.pl m.st) (mkCm k m)) := ⟨_, _, rfl, InRow.kept H.out.1 hg3 (own_apart0 H.out.1.1 H.out.2.1.1 u8Seg), ⟨ho3, H.out.2.1.2⟩⟩
 have S3 : Hid (Stp lo hi w w3) := H.out.2.2.trans (Stp.grown hg3 (fun b e => ⟨(H.out.2.1.1.lt b e).1, H.out.2.1.2 b e⟩))
 clear ho3 hg3 H c5
 go_wp2
 go_ret
 exact ⟨rfl, H3.out, S3.out⟩

set_option maxHeartbeats 1000000 in
theorem heldCarrier_sh (v : Value) (m : Cm) (k : Int) (w : World) (hR : RdCm w.heap.size w v (mkCm k m)) (h0 : 0 ≤ k) (h1 : k ≤ 10000000) (hl : m.l.length ≤ 1048576) (hg : m.g.length ≤ 1048576) :
  Calls Tryz.prog 34 #[v, .int .i64 k] w fun e w' => e = .returned (.int .i64 (k + m.l.length + 2 * m.g.length)) ∧ Below w.heap.size w w' := by
 obtain ⟨vl, vg, rfl, ⟨o, c, rfl, r⟩, ⟨og, cg, rfl, rg⟩⟩ := hR
 have e1 : (mkCm k m).l.length = m.l.length := markL_length _ _
 have e2 : (mkCm k m).g.length = m.g.length := mkL_length _ _ _ _
 rw [e1, e2]
 have hb0 : Below w.heap.size w (w.alloc (.cells #[.int .i64 m.a, .int .i64 m.b, .int .i64 m.f, .int .i64 m.s, .slice o m.l.length c, .slice og m.g.length cg, .int .i64 m.pl, .int .i64 m.st] 76)) := (Below.refl _ _).alloc (Nat.le_refl _) _
 have bx := World.alloc_heap_new w (.cells #[.int .i64 m.a, .int .i64 m.b, .int .i64 m.f, .int .i64 m.s, .slice o m.l.length c, .slice og m.g.length cg, .int .i64 m.pl, .int .i64 m.st] 76)
 have hz : w.heap.size < (w.alloc (.cells #[.int .i64 m.a, .int .i64 m.b, .int .i64 m.f, .int .i64 m.s, .slice o m.l.length c, .slice og m.g.length cg, .int .i64 m.pl, .int .i64 m.st] 76)).heap.size := by simp
 have hR0 : Rd w o (markL k m.l.length) := RdB_rd.1 r
 have hG0 : RdL layG w.heap.size w og (mkL mkSeg 2 (k + m.l.length) m.g.length) := rg
 clear r rg e1 e2
 show Calls Tryz.prog 34 #[crr m.a m.b m.f m.s (.slice o m.l.length c) (.slice og m.g.length cg) m.pl m.st, .int .i64 k] w _
 go_enter Tryz.func34, Tryz.ntmps34
 go_wp2_with fail
 generalize w.alloc (.cells #[.int .i64 m.a, .int .i64 m.b, .int .i64 m.f, .int .i64 m.s, .slice o m.l.length c, .slice og m.g.length cg, .int .i64 m.pl, .int .i64 m.st] 76) = w1 at *
 refine (heldPacket_any m.a m.b m.f m.s o c m.l.length k w1 (hR0.kept hb0) h0 (by omega) hl).mono ?_
 rintro e w2 ⟨rfl, hb2⟩
 replace bx := (hb2.block _ hz).trans bx
 have c5 : w2.cell? ⟨w.heap.size, 5, none⟩ = some (.slice og m.g.length cg) := block_cell bx 5 _ rfl
 have HB := hide (hb0.trans (hb2.mono hb0.size))
 have hn : (0 : Int) ≤ k + m.l.length := by omega
 clear bx hb0 hb2 hz
 go_wp2_with fail
 refine (heldSegS_any og cg m.g.length w.heap.size (k + m.l.length) w2 (hG0.kept HB.out (Nat.le_refl _)) (by omega) (by omega) hg).mono ?_
 rintro e _ ⟨rfl, rfl⟩
 have hn2 : (0 : Int) ≤ k + m.l.length + 2 * m.g.length := by omega
 go_wp2
 go_ret
 exact ⟨rfl, HB.out⟩

end Go.Proofs.YtajfkcpifnpkeaaGreat

/- Send, on both sides. -/
namespace Go.Proofs.YtajfkcpifnpkeaaGreat
open Go.ChangeShapes Go.WideShapes Go.ChangeAt Go.RowKit Go.Joins
set_option linter.unusedVariables false
set_option linter.unusedSimpArgs false


def nowB (n : Int) : Bool := decide (0 ≤ n) && decide (n ≤ 100000)
theorem l6nowS_any (n : Int) (w : World) : Calls Tryz.prog 80 #[.int .i64 n] w fun e w' => e = .returned (.bool (nowB n)) ∧ w = w' := by
 go_enter Tryz.func80, Tryz.ntmps80
 go_wp2
 all_goals go_ret
 all_goals refine ⟨ret_bool ?_, rfl⟩
 all_goals unfold nowB
 all_goals first | (simp [*]; done) | (simp; omega)
def cm0 : Cm := ⟨0, 0, 0, 0, [], [], 0, 0⟩
def sendB (m : Bm) (now a b f s : Int) (n : Nat) : Bool := (balB m && (nowB now && packetOkB a b f s n)) && decide (0 < (routeQ m.p.key m.p.ring m.t a b f).length)
/-- What Send tells. -/
def sendM (m : Bm) (now a b f s : Int) (l : List Int) : Cm := if sendB m now a b f s l.length = true then ⟨a, b, f, s, l, routeQ m.p.key m.p.ring m.t a b f, 0, now⟩ else cm0
abbrev set8 (W : World) (R : Nat) (x0 x1 x2 x3 x4 x5 x6 x7 : Value) : World := ((((((((W.setCell ⟨R, 0, none⟩ x0).setCell ⟨R, 1, none⟩ x1).setCell ⟨R, 2, none⟩ x2).setCell ⟨R, 3, none⟩ x3).setCell ⟨R, 4, none⟩ x4).setCell ⟨R, 5, none⟩ x5).setCell ⟨R, 6, none⟩ x6).setCell ⟨R, 7, none⟩ x7)
theorem stp_set8 (W : World) (R : Nat) (x0 x1 x2 x3 x4 x5 x6 x7 : Value) : Stp R (R + 1) W (set8 W R x0 x1 x2 x3 x4 x5 x6 x7) := (((((((stp_set W R 0 x0).trans (stp_set _ R 1 x1)).trans (stp_set _ R 2 x2)).trans (stp_set _ R 3 x3)).trans (stp_set _ R 4 x4)).trans (stp_set _ R 5 x5)).trans (stp_set _ R 6 x6)).trans (stp_set _ R 7 x7)
theorem set8_size (W : World) (R : Nat) (x0 x1 x2 x3 x4 x5 x6 x7 : Value) : (set8 W R x0 x1 x2 x3 x4 x5 x6 x7).heap.size = W.heap.size := by simp [World.setCell]
theorem set8_below {C : Nat} {w W : World} {R : Nat} (h : Below C w W) (hB : C ≤ R) (x0 x1 x2 x3 x4 x5 x6 x7 : Value) : Below C w (set8 W R x0 x1 x2 x3 x4 x5 x6 x7) := ((((((((h.setCell (p := ⟨R, 0, none⟩) hB _).setCell (p := ⟨R, 1, none⟩) hB _).setCell (p := ⟨R, 2, none⟩) hB _).setCell (p := ⟨R, 3, none⟩) hB _).setCell (p := ⟨R, 4, none⟩) hB _).setCell (p := ⟨R, 5, none⟩) hB _).setCell (p := ⟨R, 6, none⟩) hB _).setCell (p := ⟨R, 7, none⟩) hB _)
theorem cm0_in (lo hi : Nat) (w : World) : InCm lo hi w (crr 0 0 0 0 (.slice none 0 0) (.slice none 0 0) 0 0) cm0 := ⟨_, _, rfl, ⟨World.ownsRow_nil _ _ _ _, fun b e => by cases e⟩, ⟨World.ownsRow_nil _ _ _ _, fun b e => by cases e⟩⟩
theorem ownL.open' {w : World} {base : Nat} {o : Option Addr} {n c : Nat} {l : List (Int × Int)} (h : ownL layG 126 w base (.slice o n c) l) : RdL layG w.heap.size w o l := by
 obtain ⟨o', c', e, r⟩ := ownL.open (L := layG) h
 injection e with e1 _ _
 subst e1
 exact r
theorem capN {w : World} {base : Nat} {o : Option Addr} {n c : Nat} {l : List (Int × Int)} (h : ownL layG 126 w base (.slice o n c) l) : o = none → c = 0 := fun e => InRow.cap (InRow.of h) n c (by rw [e])
theorem route_six {m : Bm} {a b f s : Int} {n : Nat} (h : balB m = true) (hp : packetOkB a b f s n = true) : (routeQ m.p.key m.p.ring m.t a b f).length ≤ 100 := by
 have hp' := balB_pool h
 have hr := Ring.of hp'
 obtain ⟨qn, hq, hq8⟩ := bucketI_nat (pool_facts hp').1 (packet_flow hp)
 unfold routeQ
 rw [hq]
 have h6 := hr.six hq8
 have h2 := hr.two 0 hr.pos qn hq8
 rw [show ((qn : Int)).toNat = qn from rfl]
 have h7 := segsTo_len (endL m.t a b).2 (getL m.t a b).v (candL m.p.ring qn) (candL m.p.ring qn).length
 unfold routeL
 split
 ·have h8 := huntTo_len (segsTo (endL m.t a b).2 (getL m.t a b).v (candL m.p.ring qn) (candL m.p.ring qn).length) ((m.p.ring.getD 0 []).getD qn []) ((m.p.ring.getD 0 []).getD qn []).length
  omega
 ·omega

set_option maxRecDepth 100000 in
set_option maxHeartbeats 4000000 in
theorem sendI_any (g nt xc : Nat) (kq : Int) (yo : Option Addr) (yn yc : Nat) (sq kp : Int) (uo : Option Addr) (un uc : Nat) (vo : Option Addr) (vn vc : Nat) (now a b f s : Int) (po : Option Addr) (pn pc : Nat) (l : List Int) (rt : List (Int × Int)) (db : Bool) (mr : Cm) (w : World) (hdb : decide (0 < rt.length) = db) (hmr : mr = if db = true then ⟨a, b, f, s, l, rt, 0, now⟩ else cm0) (hpn : pn = l.length) (hR : Rd w po l) (hnil : po = none → pc = 0) (hll : l.length ≤ 1048576) (hrl : rt.length ≤ 100)
  (hrt : ∀ W : World, Below w.heap.size w W → Calls Tryz.prog 75 #[balr (.slice (some ⟨g, 0, none⟩) nt xc) kq (.slice yo yn yc) sq kp (.slice uo un uc) (.slice vo vn vc), pkt a b f s (.slice po pn pc)] W fun e w' => ∃ v, e = .returned v ∧ ownL layG 126 w' W.heap.size v rt ∧ Below W.heap.size W w') :
  Calls Tryz.prog 84 #[balr (.slice (some ⟨g, 0, none⟩) nt xc) kq (.slice yo yn yc) sq kp (.slice uo un uc) (.slice vo vn vc), .int .i64 now, pkt a b f s (.slice po pn pc)] w fun e w' => ∃ (xo : Option Addr) (xn xk : Nat) (yo2 : Option Addr) (yn2 yk : Nat) (k1 k2 k3 k4 k5 : Int), e = .returned (.tuple #[crr k1 k2 k3 k4 (.slice xo xn xk) (.slice yo2 yn2 yk) 0 k5, .bool db]) ∧ InCm w.heap.size w'.heap.size w' (crr k1 k2 k3 k4 (.slice xo xn xk) (.slice yo2 yn2 yk) 0 k5) mr ∧ Below w.heap.size w w' := by
 have HRT := hide hrt
 have HCL := hide (fun W (hb : Below w.heap.size w W) => clonePacket_any a b f s po pc l W (hR.kept hb) hnil hll)
 rw [← hpn] at HCL
 have HPN := hide hpn
 have HDB := hide hdb
 have HMR := hide hmr
 clear hrt hR hnil hpn hdb hmr
 obtain ⟨W0, hW0⟩ : ∃ W, (((w.alloc (.cells #[.slice (some ⟨g, 0, none⟩) nt xc, .int .i64 kq, .slice yo yn yc, .int .i64 sq, .int .i64 kp, .slice uo un uc, .slice vo vn vc] 109)).alloc (.cells #[.int .i64 a, .int .i64 b, .int .i64 f, .int .i64 s, .slice po pn pc] 68)).alloc (.cells #[.int .i64 0, .int .i64 0, .int .i64 0, .int .i64 0, .slice none 0 0, .slice none 0 0, .int .i64 0, .int .i64 0] 76)) = W := ⟨_, rfl⟩
 have hb_W0 : Below w.heap.size w W0 := by rw [← hW0]; exact ((((Below.refl _ _).alloc (Nat.le_refl _) _).alloc (by simp <;> omega) _).alloc (by simp <;> omega) _)
 have HB := hide hb_W0
 clear hb_W0
 have zx : w.heap.size < W0.heap.size := by rw [← hW0]; simp <;> omega
 have x0 : W0.cell? ⟨w.heap.size, 0, none⟩ = some (.slice (some ⟨g, 0, none⟩) nt xc) := by rw [← hW0]; simp [go_sem]
 have x1 : W0.cell? ⟨w.heap.size, 1, none⟩ = some (.int .i64 kq) := by rw [← hW0]; simp [go_sem]
 have x2 : W0.cell? ⟨w.heap.size, 2, none⟩ = some (.slice yo yn yc) := by rw [← hW0]; simp [go_sem]
 have x3 : W0.cell? ⟨w.heap.size, 3, none⟩ = some (.int .i64 sq) := by rw [← hW0]; simp [go_sem]
 have x4 : W0.cell? ⟨w.heap.size, 4, none⟩ = some (.int .i64 kp) := by rw [← hW0]; simp [go_sem]
 have x5 : W0.cell? ⟨w.heap.size, 5, none⟩ = some (.slice uo un uc) := by rw [← hW0]; simp [go_sem]
 have x6 : W0.cell? ⟨w.heap.size, 6, none⟩ = some (.slice vo vn vc) := by rw [← hW0]; simp [go_sem]
 have zp : w.heap.size + 1 < W0.heap.size := by rw [← hW0]; simp <;> omega
 have p0 : W0.cell? ⟨w.heap.size + 1, 0, none⟩ = some (.int .i64 a) := by rw [← hW0]; simp [go_sem]
 have p1 : W0.cell? ⟨w.heap.size + 1, 1, none⟩ = some (.int .i64 b) := by rw [← hW0]; simp [go_sem]
 have p2 : W0.cell? ⟨w.heap.size + 1, 2, none⟩ = some (.int .i64 f) := by rw [← hW0]; simp [go_sem]
 have p3 : W0.cell? ⟨w.heap.size + 1, 3, none⟩ = some (.int .i64 s) := by rw [← hW0]; simp [go_sem]
 have p4 : W0.cell? ⟨w.heap.size + 1, 4, none⟩ = some (.slice po pn pc) := by rw [← hW0]; simp [go_sem]
 have zr : w.heap.size + 1 + 1 < W0.heap.size := by rw [← hW0]; simp
 have r0 : W0.cell? ⟨w.heap.size + 1 + 1, 0, none⟩ = some (.int .i64 0) := by rw [← hW0]; simp [go_sem]
 have r1 : W0.cell? ⟨w.heap.size + 1 + 1, 1, none⟩ = some (.int .i64 0) := by rw [← hW0]; simp [go_sem]
 have r2 : W0.cell? ⟨w.heap.size + 1 + 1, 2, none⟩ = some (.int .i64 0) := by rw [← hW0]; simp [go_sem]
 have r3 : W0.cell? ⟨w.heap.size + 1 + 1, 3, none⟩ = some (.int .i64 0) := by rw [← hW0]; simp [go_sem]
 have r4 : W0.cell? ⟨w.heap.size + 1 + 1, 4, none⟩ = some (.slice none 0 0) := by rw [← hW0]; simp [go_sem]
 have r5 : W0.cell? ⟨w.heap.size + 1 + 1, 5, none⟩ = some (.slice none 0 0) := by rw [← hW0]; simp [go_sem]
 have r6 : W0.cell? ⟨w.heap.size + 1 + 1, 6, none⟩ = some (.int .i64 0) := by rw [← hW0]; simp [go_sem]
 have r7 : W0.cell? ⟨w.heap.size + 1 + 1, 7, none⟩ = some (.int .i64 0) := by rw [← hW0]; simp [go_sem]
 have fr0 : W0.frozen? ⟨w.heap.size + 1 + 1, 0, none⟩ = false := by rw [← hW0]; simp [go_sem]
 have fr1 : W0.frozen? ⟨w.heap.size + 1 + 1, 1, none⟩ = false := by rw [← hW0]; simp [go_sem]
 have fr2 : W0.frozen? ⟨w.heap.size + 1 + 1, 2, none⟩ = false := by rw [← hW0]; simp [go_sem]
 have fr3 : W0.frozen? ⟨w.heap.size + 1 + 1, 3, none⟩ = false := by rw [← hW0]; simp [go_sem]
 have fr4 : W0.frozen? ⟨w.heap.size + 1 + 1, 4, none⟩ = false := by rw [← hW0]; simp [go_sem]
 have fr5 : W0.frozen? ⟨w.heap.size + 1 + 1, 5, none⟩ = false := by rw [← hW0]; simp [go_sem]
 have fr6 : W0.frozen? ⟨w.heap.size + 1 + 1, 6, none⟩ = false := by rw [← hW0]; simp [go_sem]
 have fr7 : W0.frozen? ⟨w.heap.size + 1 + 1, 7, none⟩ = false := by rw [← hW0]; simp [go_sem]
 have hzr : w.heap.size + 1 + 1 < W0.heap.size := zr
 go_enter Tryz.func84, Tryz.ntmps84
 go_wp2_with fail
 refine (HRT.out W0 HB.out).mono ?_
 rintro e v1 ⟨rv, rfl, hown, hb⟩
 have HO : Hid (ownL layG 126 v1 W0.heap.size rv rt) := hown
 have hs1 := hb.size
 clear hown
 replace x0 := bC hb x0 zx
 replace x1 := bC hb x1 zx
 replace x2 := bC hb x2 zx
 replace x3 := bC hb x3 zx
 replace x4 := bC hb x4 zx
 replace x5 := bC hb x5 zx
 replace x6 := bC hb x6 zx
 replace zx := Nat.lt_of_lt_of_le zx hb.size
 replace p0 := bC hb p0 zp
 replace p1 := bC hb p1 zp
 replace p2 := bC hb p2 zp
 replace p3 := bC hb p3 zp
 replace p4 := bC hb p4 zp
 replace zp := Nat.lt_of_lt_of_le zp hb.size
 replace r0 := bC hb r0 zr
 replace r1 := bC hb r1 zr
 replace r2 := bC hb r2 zr
 replace r3 := bC hb r3 zr
 replace r4 := bC hb r4 zr
 replace r5 := bC hb r5 zr
 replace r6 := bC hb r6 zr
 replace r7 := bC hb r7 zr
 replace fr0 := bF hb fr0 zr
 replace fr1 := bF hb fr1 zr
 replace fr2 := bF hb fr2 zr
 replace fr3 := bF hb fr3 zr
 replace fr4 := bF hb fr4 zr
 replace fr5 := bF hb fr5 zr
 replace fr6 := bF hb fr6 zr
 replace fr7 := bF hb fr7 zr
 replace zr := Nat.lt_of_lt_of_le zr hb.size
 replace HB := hide (HB.out.trans (hb.mono HB.out.size))
 clear hb
 clear HRT
 obtain ⟨ro, rc, e6, _⟩ := ownL.open (L := layG) HO.out
 subst e6
 obtain ⟨rn, hrn⟩ : ∃ x, rt.length = x := ⟨_, rfl⟩
 rw [hrn] at HO hrl ⊢
 have HRN := hide hrn
 clear hrn
 by_cases h0 : rn = 0
 ·subst h0
  have e0 : db = false := by rw [← HDB.out, HRN.out]; rfl
  subst e0
  go_wp2
  refine bodyPost_ret (v := .tuple #[crr 0 0 0 0 (.slice none 0 0) (.slice none 0 0) 0 0, .bool false]) (by simp [results, Tryz.results84, go_sem, r0, r1, r2, r3, r4, r5, r6, r7]) rfl ⟨none, 0, 0, none, 0, 0, 0, 0, 0, 0, 0, rfl, ?_, set8_below HB.out (by omega) _ _ _ _ _ _ _ _⟩
  rw [HMR.out]
  exact cm0_in _ _ _
 ·have h0' : ¬ ((rn : Int) = 0) := by omega
  have e0 : db = true := by rw [← HDB.out, HRN.out]; exact decide_eq_true (by omega)
  subst e0
  clear h0
  go_wp2_with fail
  refine (HCL.out v1 HB.out).mono ?_
  rintro e v2 ⟨bv, rfl, howb, hb⟩
  have HOB : Hid (ownB v2 v1.heap.size bv l) := howb
  have hs2 := hb.size
  clear howb
  replace x0 := bC hb x0 zx
  replace x1 := bC hb x1 zx
  replace x2 := bC hb x2 zx
  replace x3 := bC hb x3 zx
  replace x4 := bC hb x4 zx
  replace x5 := bC hb x5 zx
  replace x6 := bC hb x6 zx
  replace zx := Nat.lt_of_lt_of_le zx hb.size
  replace p0 := bC hb p0 zp
  replace p1 := bC hb p1 zp
  replace p2 := bC hb p2 zp
  replace p3 := bC hb p3 zp
  replace p4 := bC hb p4 zp
  replace zp := Nat.lt_of_lt_of_le zp hb.size
  replace r0 := bC hb r0 zr
  replace r1 := bC hb r1 zr
  replace r2 := bC hb r2 zr
  replace r3 := bC hb r3 zr
  replace r4 := bC hb r4 zr
  replace r5 := bC hb r5 zr
  replace r6 := bC hb r6 zr
  replace r7 := bC hb r7 zr
  replace fr0 := bF hb fr0 zr
  replace fr1 := bF hb fr1 zr
  replace fr2 := bF hb fr2 zr
  replace fr3 := bF hb fr3 zr
  replace fr4 := bF hb fr4 zr
  replace fr5 := bF hb fr5 zr
  replace fr6 := bF hb fr6 zr
  replace fr7 := bF hb fr7 zr
  replace zr := Nat.lt_of_lt_of_le zr hb.size
  replace HO := hide (own_kept HO.out hb)
  replace HB := hide (HB.out.trans (hb.mono HB.out.size))
  clear hb
  clear HCL
  obtain ⟨bo, bc, e7⟩ : ∃ o c, bv = .slice o l.length c := by obtain ⟨o, c, e, _⟩ := ownL.open (L := layB) (ownB_lay.1 HOB.out); exact ⟨o, c, e⟩
  subst e7
  obtain ⟨bn, hbn⟩ : ∃ x, l.length = x := ⟨_, rfl⟩
  rw [hbn] at HOB ⊢
  clear hbn
  have HFI : Hid (InCm w.heap.size (set8 v2 (w.heap.size + 1 + 1) (.int .i64 a) (.int .i64 b) (.int .i64 f) (.int .i64 s) (.slice bo bn bc) (.slice ro rn rc) (.int .i64 0) (.int .i64 now)).heap.size (set8 v2 (w.heap.size + 1 + 1) (.int .i64 a) (.int .i64 b) (.int .i64 f) (.int .i64 s) (.slice bo bn bc) (.slice ro rn rc) (.int .i64 0) (.int .i64 now)) (crr a b f s (.slice bo bn bc) (.slice ro rn rc) 0 now) ⟨a, b, f, s, l, rt, 0, now⟩) := by
   have s9 := stp_set8 v2 (w.heap.size + 1 + 1) (.int .i64 a) (.int .i64 b) (.int .i64 f) (.int .i64 s) (.slice bo bn bc) (.slice ro rn rc) (.int .i64 0) (.int .i64 now)
   refine ⟨_, _, rfl, InRow.mono (InRow.step (InRow.of (ownB_lay.1 HOB.out)) s9 (.inl (by omega))) (by omega) (by rw [set8_size]; exact Nat.le_refl _), InRow.mono (InRow.step (InRow.of (show ownL layG 126 v2 W0.heap.size _ rt from HO.out)) s9 (.inl (by omega))) (by omega) (by rw [set8_size]; exact Nat.le_refl _)⟩
  clear HO HOB
  go_wp2
  refine bodyPost_ret (v := .tuple #[crr a b f s (.slice bo bn bc) (.slice ro rn rc) 0 now, .bool true]) (by simp [results, Tryz.results84, go_sem, r0, r1, r2, r3, r4, r5, r6, r7]) rfl ⟨bo, bn, bc, ro, rn, rc, a, b, f, s, now, rfl, by rw [HMR.out]; exact HFI.out, set8_below HB.out (by omega) _ _ _ _ _ _ _ _⟩

set_option maxRecDepth 100000 in
set_option maxHeartbeats 4000000 in
theorem l7send_any (kj : Int) (o : Option Addr) (nj c : Nat) (sj kp : Int) (ob : Option Addr) (np cb : Nat) (oR : Option Addr) (nr cR : Nat) (ot : Option Addr) (nt ct : Nat) (now a b f s : Int) (po : Option Addr) (pn pc : Nat) (rt : List (Int × Int)) (dd : Bool) (w : World) (hdd0 : decide (0 < rt.length) = dd) (hrl : rt.length ≤ 100)
  (hrt : ∀ W : World, Below w.heap.size w W → Calls Tryz.prog 72 #[balv kj (.slice o nj c) sj kp (.slice ob np cb) (.slice oR nr cR) (.slice ot nt ct), pkt a b f s (.slice po pn pc)] W fun e w' => ∃ v, e = .returned v ∧ ownL layG 126 w' W.heap.size v rt ∧ Below W.heap.size W w') :
  Calls Tryz.prog 81 #[balv kj (.slice o nj c) sj kp (.slice ob np cb) (.slice oR nr cR) (.slice ot nt ct), .int .i64 now, pkt a b f s (.slice po pn pc)] w fun e w' => ∃ (ro : Option Addr) (rn rc : Nat), e = .returned (.tuple #[crr a b f s (.slice po pn pc) (.slice ro rn rc) 0 now, .bool dd]) ∧ rn = rt.length ∧ ownL layG 126 w' w.heap.size (.slice ro rn rc) rt ∧ Below w.heap.size w w' := by
 have HRT := hide hrt
 have HDD := hide hdd0
 clear hrt hdd0
 obtain ⟨W0, hW0⟩ : ∃ W, (((w.alloc (.cells #[.int .i64 kj, .slice o nj c, .int .i64 sj, .int .i64 kp, .slice ob np cb, .slice oR nr cR, .slice ot nt ct] 46)).alloc (.cells #[.int .i64 a, .int .i64 b, .int .i64 f, .int .i64 s, .slice po pn pc] 68)).alloc (.cells #[.int .i64 0, .int .i64 0, .int .i64 0, .int .i64 0, .slice none 0 0, .slice none 0 0, .int .i64 0, .int .i64 0] 76)) = W := ⟨_, rfl⟩
 have hb_W0 : Below w.heap.size w W0 := by rw [← hW0]; exact ((((Below.refl _ _).alloc (Nat.le_refl _) _).alloc (by simp <;> omega) _).alloc (by simp <;> omega) _)
 have HB := hide hb_W0
 clear hb_W0
 have zz : w.heap.size < W0.heap.size := by rw [← hW0]; simp <;> omega
 have z0 : W0.cell? ⟨w.heap.size, 0, none⟩ = some (.int .i64 kj) := by rw [← hW0]; simp [go_sem]
 have z1 : W0.cell? ⟨w.heap.size, 1, none⟩ = some (.slice o nj c) := by rw [← hW0]; simp [go_sem]
 have z2 : W0.cell? ⟨w.heap.size, 2, none⟩ = some (.int .i64 sj) := by rw [← hW0]; simp [go_sem]
 have z3 : W0.cell? ⟨w.heap.size, 3, none⟩ = some (.int .i64 kp) := by rw [← hW0]; simp [go_sem]
 have z4 : W0.cell? ⟨w.heap.size, 4, none⟩ = some (.slice ob np cb) := by rw [← hW0]; simp [go_sem]
 have z5 : W0.cell? ⟨w.heap.size, 5, none⟩ = some (.slice oR nr cR) := by rw [← hW0]; simp [go_sem]
 have z6 : W0.cell? ⟨w.heap.size, 6, none⟩ = some (.slice ot nt ct) := by rw [← hW0]; simp [go_sem]
 have zp : w.heap.size + 1 < W0.heap.size := by rw [← hW0]; simp <;> omega
 have p0 : W0.cell? ⟨w.heap.size + 1, 0, none⟩ = some (.int .i64 a) := by rw [← hW0]; simp [go_sem]
 have p1 : W0.cell? ⟨w.heap.size + 1, 1, none⟩ = some (.int .i64 b) := by rw [← hW0]; simp [go_sem]
 have p2 : W0.cell? ⟨w.heap.size + 1, 2, none⟩ = some (.int .i64 f) := by rw [← hW0]; simp [go_sem]
 have p3 : W0.cell? ⟨w.heap.size + 1, 3, none⟩ = some (.int .i64 s) := by rw [← hW0]; simp [go_sem]
 have p4 : W0.cell? ⟨w.heap.size + 1, 4, none⟩ = some (.slice po pn pc) := by rw [← hW0]; simp [go_sem]
 have zr : w.heap.size + 1 + 1 < W0.heap.size := by rw [← hW0]; simp
 have r0 : W0.cell? ⟨w.heap.size + 1 + 1, 0, none⟩ = some (.int .i64 0) := by rw [← hW0]; simp [go_sem]
 have r1 : W0.cell? ⟨w.heap.size + 1 + 1, 1, none⟩ = some (.int .i64 0) := by rw [← hW0]; simp [go_sem]
 have r2 : W0.cell? ⟨w.heap.size + 1 + 1, 2, none⟩ = some (.int .i64 0) := by rw [← hW0]; simp [go_sem]
 have r3 : W0.cell? ⟨w.heap.size + 1 + 1, 3, none⟩ = some (.int .i64 0) := by rw [← hW0]; simp [go_sem]
 have r4 : W0.cell? ⟨w.heap.size + 1 + 1, 4, none⟩ = some (.slice none 0 0) := by rw [← hW0]; simp [go_sem]
 have r5 : W0.cell? ⟨w.heap.size + 1 + 1, 5, none⟩ = some (.slice none 0 0) := by rw [← hW0]; simp [go_sem]
 have r6 : W0.cell? ⟨w.heap.size + 1 + 1, 6, none⟩ = some (.int .i64 0) := by rw [← hW0]; simp [go_sem]
 have r7 : W0.cell? ⟨w.heap.size + 1 + 1, 7, none⟩ = some (.int .i64 0) := by rw [← hW0]; simp [go_sem]
 have fr0 : W0.frozen? ⟨w.heap.size + 1 + 1, 0, none⟩ = false := by rw [← hW0]; simp [go_sem]
 have fr1 : W0.frozen? ⟨w.heap.size + 1 + 1, 1, none⟩ = false := by rw [← hW0]; simp [go_sem]
 have fr2 : W0.frozen? ⟨w.heap.size + 1 + 1, 2, none⟩ = false := by rw [← hW0]; simp [go_sem]
 have fr3 : W0.frozen? ⟨w.heap.size + 1 + 1, 3, none⟩ = false := by rw [← hW0]; simp [go_sem]
 have fr4 : W0.frozen? ⟨w.heap.size + 1 + 1, 4, none⟩ = false := by rw [← hW0]; simp [go_sem]
 have fr5 : W0.frozen? ⟨w.heap.size + 1 + 1, 5, none⟩ = false := by rw [← hW0]; simp [go_sem]
 have fr6 : W0.frozen? ⟨w.heap.size + 1 + 1, 6, none⟩ = false := by rw [← hW0]; simp [go_sem]
 have fr7 : W0.frozen? ⟨w.heap.size + 1 + 1, 7, none⟩ = false := by rw [← hW0]; simp [go_sem]
 have hzr : w.heap.size + 1 + 1 < W0.heap.size := zr
 go_enter Tryz.func81, Tryz.ntmps81
 go_wp2_with fail
 refine (HRT.out W0 HB.out).mono ?_
 rintro e v1 ⟨rv, rfl, hown, hb⟩
 have HO : Hid (ownL layG 126 v1 W0.heap.size rv rt) := hown
 have hs1 := hb.size
 clear hown
 replace z0 := bC hb z0 zz
 replace z1 := bC hb z1 zz
 replace z2 := bC hb z2 zz
 replace z3 := bC hb z3 zz
 replace z4 := bC hb z4 zz
 replace z5 := bC hb z5 zz
 replace z6 := bC hb z6 zz
 replace zz := Nat.lt_of_lt_of_le zz hb.size
 replace p0 := bC hb p0 zp
 replace p1 := bC hb p1 zp
 replace p2 := bC hb p2 zp
 replace p3 := bC hb p3 zp
 replace p4 := bC hb p4 zp
 replace zp := Nat.lt_of_lt_of_le zp hb.size
 replace r0 := bC hb r0 zr
 replace r1 := bC hb r1 zr
 replace r2 := bC hb r2 zr
 replace r3 := bC hb r3 zr
 replace r4 := bC hb r4 zr
 replace r5 := bC hb r5 zr
 replace r6 := bC hb r6 zr
 replace r7 := bC hb r7 zr
 replace fr0 := bF hb fr0 zr
 replace fr1 := bF hb fr1 zr
 replace fr2 := bF hb fr2 zr
 replace fr3 := bF hb fr3 zr
 replace fr4 := bF hb fr4 zr
 replace fr5 := bF hb fr5 zr
 replace fr6 := bF hb fr6 zr
 replace fr7 := bF hb fr7 zr
 replace zr := Nat.lt_of_lt_of_le zr hb.size
 replace HB := hide (HB.out.trans (hb.mono HB.out.size))
 clear hb
 clear HRT
 obtain ⟨ro, rc, e6, _⟩ := ownL.open (L := layG) HO.out
 subst e6
 obtain ⟨rn, hrn⟩ : ∃ x, rt.length = x := ⟨_, rfl⟩
 rw [hrn] at HO hrl ⊢
 have HRN := hide hrn
 clear hrn
 have hdd : decide ((0 : Int) < (rn : Int)) = dd := by have h := HDD.out; rw [HRN.out] at h; rw [← h]; simp
 have hdn : decide (0 < rn) = dd := by have h := HDD.out; rw [HRN.out] at h; exact h
 clear HDD
 have HFI : Hid (ownL layG 126 (set8 v1 (w.heap.size + 1 + 1) (.int .i64 a) (.int .i64 b) (.int .i64 f) (.int .i64 s) (.slice po pn pc) (.slice ro rn rc) (.int .i64 0) (.int .i64 now)) w.heap.size (.slice ro rn rc) rt) := own_mono (InRow.step (InRow.of (show ownL layG 126 v1 W0.heap.size _ rt from HO.out)) (stp_set8 v1 (w.heap.size + 1 + 1) (.int .i64 a) (.int .i64 b) (.int .i64 f) (.int .i64 s) (.slice po pn pc) (.slice ro rn rc) (.int .i64 0) (.int .i64 now)) (.inl (by omega))).1 (by omega)
 clear HO
 go_wp2
 refine bodyPost_ret (v := .tuple #[crr a b f s (.slice po pn pc) (.slice ro rn rc) 0 now, .bool dd]) (by simp [results, Tryz.results81, go_sem, r0, r1, r2, r3, r4, r5, r6, r7, hdd, hdn]) rfl ⟨ro, rn, rc, rfl, HRN.out.symm, HFI.out, set8_below HB.out (by omega) _ _ _ _ _ _ _ _⟩

set_option maxRecDepth 100000 in
set_option maxHeartbeats 4000000 in
theorem specSend_any (kj : Int) (o : Option Addr) (nj c : Nat) (sj kp : Int) (ob : Option Addr) (np cb : Nat) (oR : Option Addr) (nr cR : Nat) (ot : Option Addr) (nt ct : Nat) (lj : List Cd) (lb : List Bk) (lr : List (List (List Int))) (lt : List Sl) (now a b f s : Int) (po : Option Addr) (pn pc : Nat) (l : List Int) (w : World)
  (hnj : nj = lj.length) (hnt : nt = lt.length) (h1 : RdC w.heap.size w o lj) (h1c : o = none → c = 0) (h2 : RdPm w.heap.size w (plv kp (.slice ob np cb) (.slice oR nr cR)) ⟨kp, lb, lr⟩) (h4 : RdS w.heap.size w ot lt) (hf : fitB0 ⟨⟨kj, lj, sj⟩, ⟨kp, lb, lr⟩, lt⟩) (hpn : pn = l.length) (hpR : Rd w po l) (hpc : po = none → pc = 0) (hpl : l.length ≤ 1048576) :
  Calls Tryz.prog 30 #[balv kj (.slice o nj c) sj kp (.slice ob np cb) (.slice oR nr cR) (.slice ot nt ct), .int .i64 now, pkt a b f s (.slice po pn pc)] w fun e w' => ∃ v, e = .returned (.tuple #[v, .bool (sendB ⟨⟨kj, lj, sj⟩, ⟨kp, lb, lr⟩, lt⟩ now a b f s l.length)]) ∧ InCm w.heap.size w'.heap.size w' v (sendM ⟨⟨kj, lj, sj⟩, ⟨kp, lb, lr⟩, lt⟩ now a b f s l) ∧ Below w.heap.size w w' := by
 have HBO := hide (fun W (hb : Below w.heap.size w W) => specBalOk_any kj o nj c sj kp ob np cb oR nr cR ot nt ct lj lb lr lt W hnj hnt ((h1.kept hb (Nat.le_refl _)).le hb.size) h1c ((h2.kept hb (Nat.le_refl _)).le hb.size) ((h4.kept hb (Nat.le_refl _)).le hb.size) hf)
 have HRT := hide h4
 have HRP := hide h2
 have HNT := hide hnt
 have f7 : lt.length ≤ 1048576 := hf.2.2
 have hpm : pn ≤ maxLen := by unfold maxLen; omega
 have HBP := hide (fun h => balB_pos (m := ⟨⟨kj, lj, sj⟩, ⟨kp, lb, lr⟩, lt⟩) h)
 have HPB := hide (fun h => balB_pool (m := ⟨⟨kj, lj, sj⟩, ⟨kp, lb, lr⟩, lt⟩) h)
 have HSM := hide (fun h => balB_same (m := ⟨⟨kj, lj, sj⟩, ⟨kp, lb, lr⟩, lt⟩) h)
 have HVL := hide (fun h => balB_val (m := ⟨⟨kj, lj, sj⟩, ⟨kp, lb, lr⟩, lt⟩) h a b)
 have HFT := hide (fun h => balB_fit (m := ⟨⟨kj, lj, sj⟩, ⟨kp, lb, lr⟩, lt⟩) h)
 have HSX := hide (fun h h2 => route_six (m := ⟨⟨kj, lj, sj⟩, ⟨kp, lb, lr⟩, lt⟩) (a := a) (b := b) (f := f) (s := s) (n := pn) h h2)
 have HPF := hide (fun h => packet_flow (a := a) (b := b) (f := f) (s := s) (n := pn) h)
 have HSB := hide (show sendB ⟨⟨kj, lj, sj⟩, ⟨kp, lb, lr⟩, lt⟩ now a b f s l.length = ((balB ⟨⟨kj, lj, sj⟩, ⟨kp, lb, lr⟩, lt⟩ && (nowB now && packetOkB a b f s l.length)) && decide (0 < (routeQ kp lr lt a b f).length)) from rfl)
 have HM := hide (show sendM ⟨⟨kj, lj, sj⟩, ⟨kp, lb, lr⟩, lt⟩ now a b f s l = if sendB ⟨⟨kj, lj, sj⟩, ⟨kp, lb, lr⟩, lt⟩ now a b f s l.length = true then ⟨a, b, f, s, l, routeQ kp lr lt a b f, 0, now⟩ else cm0 from rfl)
 dsimp only at HPB HSM HVL HBP HFT HSX
 rw [← hpn] at HSB HM
 rw [← hpn]
 have HPR := hide (And.intro hpR (And.intro hpc hpn))
 clear h1 h2 h4 hnj hnt hf hpR hpc hpn
 obtain ⟨bb, hbb⟩ : ∃ x, balB ⟨⟨kj, lj, sj⟩, ⟨kp, lb, lr⟩, lt⟩ = x := ⟨_, rfl⟩
 obtain ⟨mr, hmr⟩ : ∃ r, sendM ⟨⟨kj, lj, sj⟩, ⟨kp, lb, lr⟩, lt⟩ now a b f s l = r := ⟨_, rfl⟩
 obtain ⟨sb, hsb⟩ : ∃ r, sendB ⟨⟨kj, lj, sj⟩, ⟨kp, lb, lr⟩, lt⟩ now a b f s pn = r := ⟨_, rfl⟩
 rw [hmr, hsb]
 rw [hbb] at HBO HBP HPB HSM HVL HFT HSX HSB
 rw [hmr, hsb] at HM
 rw [hsb] at HSB
 clear hbb hmr hsb
 obtain ⟨nb, hnb⟩ : ∃ x, nowB now = x := ⟨_, rfl⟩
 obtain ⟨pb, hpb⟩ : ∃ x, packetOkB a b f s pn = x := ⟨_, rfl⟩
 have HPO := hide hpb
 have HNO := hide hnb
 rw [hpb] at HPF HSX HSB
 rw [hnb] at HSB
 clear hpb hnb
 obtain ⟨W0, hW0⟩ : ∃ W, (((w.alloc (.cells #[.int .i64 kj, .slice o nj c, .int .i64 sj, .int .i64 kp, .slice ob np cb, .slice oR nr cR, .slice ot nt ct] 46)).alloc (.cells #[.int .i64 a, .int .i64 b, .int .i64 f, .int .i64 s, .slice po pn pc] 68)).alloc (.cells #[.int .i64 0, .int .i64 0, .int .i64 0, .int .i64 0, .slice none 0 0, .slice none 0 0, .int .i64 0, .int .i64 0] 76)) = W := ⟨_, rfl⟩
 have hb_W0 : Below w.heap.size w W0 := by rw [← hW0]; exact ((((Below.refl _ _).alloc (Nat.le_refl _) _).alloc (by simp <;> omega) _).alloc (by simp <;> omega) _)
 have HB := hide hb_W0
 clear hb_W0
 have zz : w.heap.size < W0.heap.size := by rw [← hW0]; simp <;> omega
 have z0 : W0.cell? ⟨w.heap.size, 0, none⟩ = some (.int .i64 kj) := by rw [← hW0]; simp [go_sem]
 have z1 : W0.cell? ⟨w.heap.size, 1, none⟩ = some (.slice o nj c) := by rw [← hW0]; simp [go_sem]
 have z2 : W0.cell? ⟨w.heap.size, 2, none⟩ = some (.int .i64 sj) := by rw [← hW0]; simp [go_sem]
 have z3 : W0.cell? ⟨w.heap.size, 3, none⟩ = some (.int .i64 kp) := by rw [← hW0]; simp [go_sem]
 have z4 : W0.cell? ⟨w.heap.size, 4, none⟩ = some (.slice ob np cb) := by rw [← hW0]; simp [go_sem]
 have z5 : W0.cell? ⟨w.heap.size, 5, none⟩ = some (.slice oR nr cR) := by rw [← hW0]; simp [go_sem]
 have z6 : W0.cell? ⟨w.heap.size, 6, none⟩ = some (.slice ot nt ct) := by rw [← hW0]; simp [go_sem]
 have zp : w.heap.size + 1 < W0.heap.size := by rw [← hW0]; simp <;> omega
 have p0 : W0.cell? ⟨w.heap.size + 1, 0, none⟩ = some (.int .i64 a) := by rw [← hW0]; simp [go_sem]
 have p1 : W0.cell? ⟨w.heap.size + 1, 1, none⟩ = some (.int .i64 b) := by rw [← hW0]; simp [go_sem]
 have p2 : W0.cell? ⟨w.heap.size + 1, 2, none⟩ = some (.int .i64 f) := by rw [← hW0]; simp [go_sem]
 have p3 : W0.cell? ⟨w.heap.size + 1, 3, none⟩ = some (.int .i64 s) := by rw [← hW0]; simp [go_sem]
 have p4 : W0.cell? ⟨w.heap.size + 1, 4, none⟩ = some (.slice po pn pc) := by rw [← hW0]; simp [go_sem]
 have zr : w.heap.size + 1 + 1 < W0.heap.size := by rw [← hW0]; simp
 have r0 : W0.cell? ⟨w.heap.size + 1 + 1, 0, none⟩ = some (.int .i64 0) := by rw [← hW0]; simp [go_sem]
 have r1 : W0.cell? ⟨w.heap.size + 1 + 1, 1, none⟩ = some (.int .i64 0) := by rw [← hW0]; simp [go_sem]
 have r2 : W0.cell? ⟨w.heap.size + 1 + 1, 2, none⟩ = some (.int .i64 0) := by rw [← hW0]; simp [go_sem]
 have r3 : W0.cell? ⟨w.heap.size + 1 + 1, 3, none⟩ = some (.int .i64 0) := by rw [← hW0]; simp [go_sem]
 have r4 : W0.cell? ⟨w.heap.size + 1 + 1, 4, none⟩ = some (.slice none 0 0) := by rw [← hW0]; simp [go_sem]
 have r5 : W0.cell? ⟨w.heap.size + 1 + 1, 5, none⟩ = some (.slice none 0 0) := by rw [← hW0]; simp [go_sem]
 have r6 : W0.cell? ⟨w.heap.size + 1 + 1, 6, none⟩ = some (.int .i64 0) := by rw [← hW0]; simp [go_sem]
 have r7 : W0.cell? ⟨w.heap.size + 1 + 1, 7, none⟩ = some (.int .i64 0) := by rw [← hW0]; simp [go_sem]
 have fr0 : W0.frozen? ⟨w.heap.size + 1 + 1, 0, none⟩ = false := by rw [← hW0]; simp [go_sem]
 have fr1 : W0.frozen? ⟨w.heap.size + 1 + 1, 1, none⟩ = false := by rw [← hW0]; simp [go_sem]
 have fr2 : W0.frozen? ⟨w.heap.size + 1 + 1, 2, none⟩ = false := by rw [← hW0]; simp [go_sem]
 have fr3 : W0.frozen? ⟨w.heap.size + 1 + 1, 3, none⟩ = false := by rw [← hW0]; simp [go_sem]
 have fr4 : W0.frozen? ⟨w.heap.size + 1 + 1, 4, none⟩ = false := by rw [← hW0]; simp [go_sem]
 have fr5 : W0.frozen? ⟨w.heap.size + 1 + 1, 5, none⟩ = false := by rw [← hW0]; simp [go_sem]
 have fr6 : W0.frozen? ⟨w.heap.size + 1 + 1, 6, none⟩ = false := by rw [← hW0]; simp [go_sem]
 have fr7 : W0.frozen? ⟨w.heap.size + 1 + 1, 7, none⟩ = false := by rw [← hW0]; simp [go_sem]
 have hzr : w.heap.size + 1 + 1 < W0.heap.size := zr
 cases bb with
 | false =>
  go_enter Tryz.func30, Tryz.ntmps30
  go_wp2_with fail
  refine (HBO.out W0 HB.out).mono ?_
  rintro e v1 ⟨rfl, hb⟩
  replace z0 := bC hb z0 zz
  replace z1 := bC hb z1 zz
  replace z2 := bC hb z2 zz
  replace z3 := bC hb z3 zz
  replace z4 := bC hb z4 zz
  replace z5 := bC hb z5 zz
  replace z6 := bC hb z6 zz
  replace zz := Nat.lt_of_lt_of_le zz hb.size
  replace p0 := bC hb p0 zp
  replace p1 := bC hb p1 zp
  replace p2 := bC hb p2 zp
  replace p3 := bC hb p3 zp
  replace p4 := bC hb p4 zp
  replace zp := Nat.lt_of_lt_of_le zp hb.size
  replace r0 := bC hb r0 zr
  replace r1 := bC hb r1 zr
  replace r2 := bC hb r2 zr
  replace r3 := bC hb r3 zr
  replace r4 := bC hb r4 zr
  replace r5 := bC hb r5 zr
  replace r6 := bC hb r6 zr
  replace r7 := bC hb r7 zr
  replace fr0 := bF hb fr0 zr
  replace fr1 := bF hb fr1 zr
  replace fr2 := bF hb fr2 zr
  replace fr3 := bF hb fr3 zr
  replace fr4 := bF hb fr4 zr
  replace fr5 := bF hb fr5 zr
  replace fr6 := bF hb fr6 zr
  replace fr7 := bF hb fr7 zr
  replace zr := Nat.lt_of_lt_of_le zr hb.size
  replace HB := hide (HB.out.trans (hb.mono HB.out.size))
  clear hb
  have e0 : sb = false := by rw [HSB.out]; simp
  subst e0
  go_wp2
  refine bodyPost_ret (v := .tuple #[crr 0 0 0 0 (.slice none 0 0) (.slice none 0 0) 0 0, .bool false]) (by simp [results, Tryz.results30, go_sem, r0, r1, r2, r3, r4, r5, r6, r7]) rfl ⟨_, rfl, ?_, set8_below HB.out (by omega) _ _ _ _ _ _ _ _⟩
  rw [HM.out]
  exact cm0_in _ _ _
 | true =>
  cases nb with
  | false =>
   go_enter Tryz.func30, Tryz.ntmps30
   go_wp2_with fail
   refine (HBO.out W0 HB.out).mono ?_
   rintro e v1 ⟨rfl, hb⟩
   replace z0 := bC hb z0 zz
   replace z1 := bC hb z1 zz
   replace z2 := bC hb z2 zz
   replace z3 := bC hb z3 zz
   replace z4 := bC hb z4 zz
   replace z5 := bC hb z5 zz
   replace z6 := bC hb z6 zz
   replace zz := Nat.lt_of_lt_of_le zz hb.size
   replace p0 := bC hb p0 zp
   replace p1 := bC hb p1 zp
   replace p2 := bC hb p2 zp
   replace p3 := bC hb p3 zp
   replace p4 := bC hb p4 zp
   replace zp := Nat.lt_of_lt_of_le zp hb.size
   replace r0 := bC hb r0 zr
   replace r1 := bC hb r1 zr
   replace r2 := bC hb r2 zr
   replace r3 := bC hb r3 zr
   replace r4 := bC hb r4 zr
   replace r5 := bC hb r5 zr
   replace r6 := bC hb r6 zr
   replace r7 := bC hb r7 zr
   replace fr0 := bF hb fr0 zr
   replace fr1 := bF hb fr1 zr
   replace fr2 := bF hb fr2 zr
   replace fr3 := bF hb fr3 zr
   replace fr4 := bF hb fr4 zr
   replace fr5 := bF hb fr5 zr
   replace fr6 := bF hb fr6 zr
   replace fr7 := bF hb fr7 zr
   replace zr := Nat.lt_of_lt_of_le zr hb.size
   replace HB := hide (HB.out.trans (hb.mono HB.out.size))
   clear hb
   go_wp2_with fail
   have hnw := l6nowS_any now v1
   rw [HNO.out] at hnw
   refine hnw.mono ?_
   rintro e _ ⟨rfl, rfl⟩
   clear hnw
   have e0 : sb = false := by rw [HSB.out]; simp
   subst e0
   go_wp2
   refine bodyPost_ret (v := .tuple #[crr 0 0 0 0 (.slice none 0 0) (.slice none 0 0) 0 0, .bool false]) (by simp [results, Tryz.results30, go_sem, r0, r1, r2, r3, r4, r5, r6, r7]) rfl ⟨_, rfl, ?_, set8_below HB.out (by omega) _ _ _ _ _ _ _ _⟩
   rw [HM.out]
   exact cm0_in _ _ _
  | true =>
   cases pb with
   | false =>
    go_enter Tryz.func30, Tryz.ntmps30
    go_wp2_with fail
    refine (HBO.out W0 HB.out).mono ?_
    rintro e v1 ⟨rfl, hb⟩
    replace z0 := bC hb z0 zz
    replace z1 := bC hb z1 zz
    replace z2 := bC hb z2 zz
    replace z3 := bC hb z3 zz
    replace z4 := bC hb z4 zz
    replace z5 := bC hb z5 zz
    replace z6 := bC hb z6 zz
    replace zz := Nat.lt_of_lt_of_le zz hb.size
    replace p0 := bC hb p0 zp
    replace p1 := bC hb p1 zp
    replace p2 := bC hb p2 zp
    replace p3 := bC hb p3 zp
    replace p4 := bC hb p4 zp
    replace zp := Nat.lt_of_lt_of_le zp hb.size
    replace r0 := bC hb r0 zr
    replace r1 := bC hb r1 zr
    replace r2 := bC hb r2 zr
    replace r3 := bC hb r3 zr
    replace r4 := bC hb r4 zr
    replace r5 := bC hb r5 zr
    replace r6 := bC hb r6 zr
    replace r7 := bC hb r7 zr
    replace fr0 := bF hb fr0 zr
    replace fr1 := bF hb fr1 zr
    replace fr2 := bF hb fr2 zr
    replace fr3 := bF hb fr3 zr
    replace fr4 := bF hb fr4 zr
    replace fr5 := bF hb fr5 zr
    replace fr6 := bF hb fr6 zr
    replace fr7 := bF hb fr7 zr
    replace zr := Nat.lt_of_lt_of_le zr hb.size
    replace HB := hide (HB.out.trans (hb.mono HB.out.size))
    clear hb
    go_wp2_with fail
    have hnw := l6nowS_any now v1
    rw [HNO.out] at hnw
    refine hnw.mono ?_
    rintro e _ ⟨rfl, rfl⟩
    clear hnw
    have hfl := specPacketOk_any a b f s po pn pc v1 hpm
    rw [HPO.out] at hfl
    go_wp2_with fail
    refine (hfl).mono ?_
    rintro e v2 ⟨rfl, hb⟩
    replace z0 := bC hb z0 zz
    replace z1 := bC hb z1 zz
    replace z2 := bC hb z2 zz
    replace z3 := bC hb z3 zz
    replace z4 := bC hb z4 zz
    replace z5 := bC hb z5 zz
    replace z6 := bC hb z6 zz
    replace zz := Nat.lt_of_lt_of_le zz hb.size
    replace p0 := bC hb p0 zp
    replace p1 := bC hb p1 zp
    replace p2 := bC hb p2 zp
    replace p3 := bC hb p3 zp
    replace p4 := bC hb p4 zp
    replace zp := Nat.lt_of_lt_of_le zp hb.size
    replace r0 := bC hb r0 zr
    replace r1 := bC hb r1 zr
    replace r2 := bC hb r2 zr
    replace r3 := bC hb r3 zr
    replace r4 := bC hb r4 zr
    replace r5 := bC hb r5 zr
    replace r6 := bC hb r6 zr
    replace r7 := bC hb r7 zr
    replace fr0 := bF hb fr0 zr
    replace fr1 := bF hb fr1 zr
    replace fr2 := bF hb fr2 zr
    replace fr3 := bF hb fr3 zr
    replace fr4 := bF hb fr4 zr
    replace fr5 := bF hb fr5 zr
    replace fr6 := bF hb fr6 zr
    replace fr7 := bF hb fr7 zr
    replace zr := Nat.lt_of_lt_of_le zr hb.size
    replace HB := hide (HB.out.trans (hb.mono HB.out.size))
    clear hb
    clear hfl
    have e0 : sb = false := by rw [HSB.out]; simp
    subst e0
    go_wp2
    refine bodyPost_ret (v := .tuple #[crr 0 0 0 0 (.slice none 0 0) (.slice none 0 0) 0 0, .bool false]) (by simp [results, Tryz.results30, go_sem, r0, r1, r2, r3, r4, r5, r6, r7]) rfl ⟨_, rfl, ?_, set8_below HB.out (by omega) _ _ _ _ _ _ _ _⟩
    rw [HM.out]
    exact cm0_in _ _ _
   | true =>
    have hn := HBP.out rfl
    have hpo := HPB.out rfl
    have hfo := HPF.out rfl
    have hsx := HSX.out rfl rfl
    obtain ⟨bt, ft, rfl, hbt, hcell⟩ := rdS_some HRT.out hn
    obtain ⟨vb9, vr9, e9, _, hG⟩ := HRP.out
    simp only [Value.agg.injEq, Array.mk.injEq, List.cons.injEq, and_true, true_and] at e9
    obtain ⟨e91, e92⟩ := e9
    subst e91 e92
    dsimp only at hG
    obtain ⟨oz, cz, ez⟩ := RiR.len hG
    injection ez with ez1 ez2 ez3
    have HG := hide (fun W (hb : Below w.heap.size w W) => l7send_any kj o nj c sj kp ob np cb oR nr cR (some ⟨bt, ft, none⟩) nt ct now a b f s po pn pc (routeQ kp lr lt a b f) _ W rfl hsx (fun W2 hb2 => l7route_any kj o nj c sj kp ob np cb oR nr cR bt ft nt ct lr lt a b f s po pn pc W2 ez2 HNT.out hn f7 (pool_facts hpo).1 hfo (RiR.mon.go (RiR.stp.go hG (Stp.of (lo := 0) (hi := 0) (hb.trans (hb2.mono hb.size))) (.inl (Nat.zero_le _))) (Nat.le_refl _) (Nat.le_trans hb.size hb2.size)) (Ring.of hpo) (Nat.lt_of_lt_of_le hbt (Nat.le_trans hb.size hb2.size)) (fun i hi j hj => ((hb.trans (hb2.mono hb.size)).cell (p := ⟨bt, ft + i * layS.k + j, none⟩) hbt).trans (hcell i hi j hj))))
    clear hcell HRT HRP hG ez1 ez2 ez3 hn hpo hfo HNT f7 HBP HPB HSM HVL HFT HPF HSX
    obtain ⟨rt, hrt⟩ : ∃ x, routeQ kp lr lt a b f = x := ⟨_, rfl⟩
    rw [hrt] at HG hsx HM HSB
    clear hrt
    obtain ⟨db, hdb⟩ : ∃ x, decide (0 < rt.length) = x := ⟨_, rfl⟩
    rw [hdb] at HG HSB
    clear hdb
    go_enter Tryz.func30, Tryz.ntmps30
    go_wp2_with fail
    refine (HBO.out W0 HB.out).mono ?_
    rintro e v1 ⟨rfl, hb⟩
    have HS1 := hide hb.size
    replace z0 := bC hb z0 zz
    replace z1 := bC hb z1 zz
    replace z2 := bC hb z2 zz
    replace z3 := bC hb z3 zz
    replace z4 := bC hb z4 zz
    replace z5 := bC hb z5 zz
    replace z6 := bC hb z6 zz
    replace zz := Nat.lt_of_lt_of_le zz hb.size
    replace p0 := bC hb p0 zp
    replace p1 := bC hb p1 zp
    replace p2 := bC hb p2 zp
    replace p3 := bC hb p3 zp
    replace p4 := bC hb p4 zp
    replace zp := Nat.lt_of_lt_of_le zp hb.size
    replace r0 := bC hb r0 zr
    replace r1 := bC hb r1 zr
    replace r2 := bC hb r2 zr
    replace r3 := bC hb r3 zr
    replace r4 := bC hb r4 zr
    replace r5 := bC hb r5 zr
    replace r6 := bC hb r6 zr
    replace r7 := bC hb r7 zr
    replace fr0 := bF hb fr0 zr
    replace fr1 := bF hb fr1 zr
    replace fr2 := bF hb fr2 zr
    replace fr3 := bF hb fr3 zr
    replace fr4 := bF hb fr4 zr
    replace fr5 := bF hb fr5 zr
    replace fr6 := bF hb fr6 zr
    replace fr7 := bF hb fr7 zr
    replace zr := Nat.lt_of_lt_of_le zr hb.size
    replace HB := hide (HB.out.trans (hb.mono HB.out.size))
    clear hb
    go_wp2_with fail
    have hnw := l6nowS_any now v1
    rw [HNO.out] at hnw
    refine hnw.mono ?_
    rintro e _ ⟨rfl, rfl⟩
    clear hnw
    have hfl := specPacketOk_any a b f s po pn pc v1 hpm
    rw [HPO.out] at hfl
    go_wp2_with fail
    refine (hfl).mono ?_
    rintro e v2 ⟨rfl, hb⟩
    have HSZ := hide (Nat.le_trans HS1.out hb.size)
    replace z0 := bC hb z0 zz
    replace z1 := bC hb z1 zz
    replace z2 := bC hb z2 zz
    replace z3 := bC hb z3 zz
    replace z4 := bC hb z4 zz
    replace z5 := bC hb z5 zz
    replace z6 := bC hb z6 zz
    replace zz := Nat.lt_of_lt_of_le zz hb.size
    replace p0 := bC hb p0 zp
    replace p1 := bC hb p1 zp
    replace p2 := bC hb p2 zp
    replace p3 := bC hb p3 zp
    replace p4 := bC hb p4 zp
    replace zp := Nat.lt_of_lt_of_le zp hb.size
    replace r0 := bC hb r0 zr
    replace r1 := bC hb r1 zr
    replace r2 := bC hb r2 zr
    replace r3 := bC hb r3 zr
    replace r4 := bC hb r4 zr
    replace r5 := bC hb r5 zr
    replace r6 := bC hb r6 zr
    replace r7 := bC hb r7 zr
    replace fr0 := bF hb fr0 zr
    replace fr1 := bF hb fr1 zr
    replace fr2 := bF hb fr2 zr
    replace fr3 := bF hb fr3 zr
    replace fr4 := bF hb fr4 zr
    replace fr5 := bF hb fr5 zr
    replace fr6 := bF hb fr6 zr
    replace fr7 := bF hb fr7 zr
    replace zr := Nat.lt_of_lt_of_le zr hb.size
    replace HB := hide (HB.out.trans (hb.mono HB.out.size))
    clear hb
    clear hfl HPO HBO
    go_wp2_with fail
    refine (HG.out v2 HB.out).mono ?_
    rintro e v3 ⟨ro, rn, rc, rfl, hrn, hown, hb⟩
    have HS3 := hide hb.size
    have HOW := hide hown
    have HRN := hide hrn
    clear hown hrn HG
    replace z0 := bC hb z0 zz
    replace z1 := bC hb z1 zz
    replace z2 := bC hb z2 zz
    replace z3 := bC hb z3 zz
    replace z4 := bC hb z4 zz
    replace z5 := bC hb z5 zz
    replace z6 := bC hb z6 zz
    replace zz := Nat.lt_of_lt_of_le zz hb.size
    replace p0 := bC hb p0 zp
    replace p1 := bC hb p1 zp
    replace p2 := bC hb p2 zp
    replace p3 := bC hb p3 zp
    replace p4 := bC hb p4 zp
    replace zp := Nat.lt_of_lt_of_le zp hb.size
    replace r0 := bC hb r0 zr
    replace r1 := bC hb r1 zr
    replace r2 := bC hb r2 zr
    replace r3 := bC hb r3 zr
    replace r4 := bC hb r4 zr
    replace r5 := bC hb r5 zr
    replace r6 := bC hb r6 zr
    replace r7 := bC hb r7 zr
    replace fr0 := bF hb fr0 zr
    replace fr1 := bF hb fr1 zr
    replace fr2 := bF hb fr2 zr
    replace fr3 := bF hb fr3 zr
    replace fr4 := bF hb fr4 zr
    replace fr5 := bF hb fr5 zr
    replace fr6 := bF hb fr6 zr
    replace fr7 := bF hb fr7 zr
    replace zr := Nat.lt_of_lt_of_le zr hb.size
    replace HB := hide (HB.out.trans (hb.mono HB.out.size))
    clear hb
    obtain ⟨W4, hW4⟩ : ∃ W, (v3.alloc (.cells #[.int .i64 a, .int .i64 b, .int .i64 f, .int .i64 s, .slice po pn pc, .slice ro rn rc, .int .i64 0, .int .i64 now] 76)) = W := ⟨_, rfl⟩
    have HS4 : Hid (W0.heap.size ≤ W4.heap.size) := by have h9 := HSZ.out; have h8 := HS3.out; unfold Hid; rw [← hW4]; simp; omega
    have hb_W4 : Below v3.heap.size v3 W4 := by rw [← hW4]; exact ((Below.refl _ _).alloc (Nat.le_refl _) _)
    replace z0 := bC hb_W4 z0 zz
    replace z1 := bC hb_W4 z1 zz
    replace z2 := bC hb_W4 z2 zz
    replace z3 := bC hb_W4 z3 zz
    replace z4 := bC hb_W4 z4 zz
    replace z5 := bC hb_W4 z5 zz
    replace z6 := bC hb_W4 z6 zz
    replace zz := Nat.lt_of_lt_of_le zz hb_W4.size
    replace p0 := bC hb_W4 p0 zp
    replace p1 := bC hb_W4 p1 zp
    replace p2 := bC hb_W4 p2 zp
    replace p3 := bC hb_W4 p3 zp
    replace p4 := bC hb_W4 p4 zp
    replace zp := Nat.lt_of_lt_of_le zp hb_W4.size
    replace r0 := bC hb_W4 r0 zr
    replace r1 := bC hb_W4 r1 zr
    replace r2 := bC hb_W4 r2 zr
    replace r3 := bC hb_W4 r3 zr
    replace r4 := bC hb_W4 r4 zr
    replace r5 := bC hb_W4 r5 zr
    replace r6 := bC hb_W4 r6 zr
    replace r7 := bC hb_W4 r7 zr
    replace fr0 := bF hb_W4 fr0 zr
    replace fr1 := bF hb_W4 fr1 zr
    replace fr2 := bF hb_W4 fr2 zr
    replace fr3 := bF hb_W4 fr3 zr
    replace fr4 := bF hb_W4 fr4 zr
    replace fr5 := bF hb_W4 fr5 zr
    replace fr6 := bF hb_W4 fr6 zr
    replace fr7 := bF hb_W4 fr7 zr
    replace zr := Nat.lt_of_lt_of_le zr hb_W4.size
    replace HOW := hide (own_kept HOW.out hb_W4)
    replace HB := hide (HB.out.trans (hb_W4.mono HB.out.size))
    clear hb_W4
    have zkk : v3.heap.size < W4.heap.size := by rw [← hW4]; simp
    have kk0 : W4.cell? ⟨v3.heap.size, 0, none⟩ = some (.int .i64 a) := by rw [← hW4]; simp [go_sem]
    have kk1 : W4.cell? ⟨v3.heap.size, 1, none⟩ = some (.int .i64 b) := by rw [← hW4]; simp [go_sem]
    have kk2 : W4.cell? ⟨v3.heap.size, 2, none⟩ = some (.int .i64 f) := by rw [← hW4]; simp [go_sem]
    have kk3 : W4.cell? ⟨v3.heap.size, 3, none⟩ = some (.int .i64 s) := by rw [← hW4]; simp [go_sem]
    have kk4 : W4.cell? ⟨v3.heap.size, 4, none⟩ = some (.slice po pn pc) := by rw [← hW4]; simp [go_sem]
    have kk5 : W4.cell? ⟨v3.heap.size, 5, none⟩ = some (.slice ro rn rc) := by rw [← hW4]; simp [go_sem]
    have kk6 : W4.cell? ⟨v3.heap.size, 6, none⟩ = some (.int .i64 0) := by rw [← hW4]; simp [go_sem]
    have kk7 : W4.cell? ⟨v3.heap.size, 7, none⟩ = some (.int .i64 now) := by rw [← hW4]; simp [go_sem]
    cases db with
    | false =>
     have e0 : sb = false := by rw [HSB.out]; simp
     subst e0
     go_wp2
     refine bodyPost_ret (v := .tuple #[crr 0 0 0 0 (.slice none 0 0) (.slice none 0 0) 0 0, .bool false]) (by simp [results, Tryz.results30, go_sem, r0, r1, r2, r3, r4, r5, r6, r7]) rfl ⟨_, rfl, ?_, set8_below HB.out (by omega) _ _ _ _ _ _ _ _⟩
     rw [HM.out]
     exact cm0_in _ _ _
    | true =>
     have e0 : sb = true := by rw [HSB.out]; simp
     subst e0
     have HLO := hide (l2own_any a b f s po ro pc rc l rt 0 now W4 (HPR.out.1.kept HB.out) HPR.out.2.1 hpl (RdG_rd.1 ((ownL.open' HOW.out).le (Nat.le_refl _))) (capN HOW.out) (by omega))
     rw [← HPR.out.2.2, ← HRN.out] at HLO
     clear HOW HPR
     go_wp2_with fail
     refine (HLO.out).mono ?_
     rintro e v4 ⟨bv, gv, rfl, howb, howg, hb⟩
     have HOB := hide howb
     have HOG := hide howg
     have hs5 := hb.size
     clear howb howg
     replace z0 := bC hb z0 zz
     replace z1 := bC hb z1 zz
     replace z2 := bC hb z2 zz
     replace z3 := bC hb z3 zz
     replace z4 := bC hb z4 zz
     replace z5 := bC hb z5 zz
     replace z6 := bC hb z6 zz
     replace zz := Nat.lt_of_lt_of_le zz hb.size
     replace p0 := bC hb p0 zp
     replace p1 := bC hb p1 zp
     replace p2 := bC hb p2 zp
     replace p3 := bC hb p3 zp
     replace p4 := bC hb p4 zp
     replace zp := Nat.lt_of_lt_of_le zp hb.size
     replace r0 := bC hb r0 zr
     replace r1 := bC hb r1 zr
     replace r2 := bC hb r2 zr
     replace r3 := bC hb r3 zr
     replace r4 := bC hb r4 zr
     replace r5 := bC hb r5 zr
     replace r6 := bC hb r6 zr
     replace r7 := bC hb r7 zr
     replace fr0 := bF hb fr0 zr
     replace fr1 := bF hb fr1 zr
     replace fr2 := bF hb fr2 zr
     replace fr3 := bF hb fr3 zr
     replace fr4 := bF hb fr4 zr
     replace fr5 := bF hb fr5 zr
     replace fr6 := bF hb fr6 zr
     replace fr7 := bF hb fr7 zr
     replace zr := Nat.lt_of_lt_of_le zr hb.size
     replace kk0 := bC hb kk0 zkk
     replace kk1 := bC hb kk1 zkk
     replace kk2 := bC hb kk2 zkk
     replace kk3 := bC hb kk3 zkk
     replace kk4 := bC hb kk4 zkk
     replace kk5 := bC hb kk5 zkk
     replace kk6 := bC hb kk6 zkk
     replace kk7 := bC hb kk7 zkk
     replace zkk := Nat.lt_of_lt_of_le zkk hb.size
     replace HB := hide (HB.out.trans (hb.mono HB.out.size))
     clear hb
     clear HLO
     obtain ⟨bo, bc, e7⟩ : ∃ o c, bv = .slice o l.length c := by obtain ⟨o, c, e, _⟩ := ownL.open (L := layB) (ownB_lay.1 HOB.out); exact ⟨o, c, e⟩
     subst e7
     obtain ⟨go, gc, e8⟩ : ∃ o c, gv = .slice o rt.length c := by obtain ⟨o, c, e, _⟩ := ownL.open (L := layG) (ownG_lay.1 HOG.out); exact ⟨o, c, e⟩
     subst e8
     obtain ⟨bn, hbn⟩ : ∃ x, l.length = x := ⟨_, rfl⟩
     obtain ⟨gn, hgn⟩ : ∃ x, rt.length = x := ⟨_, rfl⟩
     rw [hbn] at HOB
     rw [hgn] at HOG
     rw [hbn, hgn]
     clear hbn hgn hpl hsx
     have hW4 : W0.heap.size ≤ W4.heap.size := HS4.out
     have HFI : Hid (InCm w.heap.size (set8 v4 (w.heap.size + 1 + 1) (.int .i64 a) (.int .i64 b) (.int .i64 f) (.int .i64 s) (.slice bo bn bc) (.slice go gn gc) (.int .i64 0) (.int .i64 now)).heap.size (set8 v4 (w.heap.size + 1 + 1) (.int .i64 a) (.int .i64 b) (.int .i64 f) (.int .i64 s) (.slice bo bn bc) (.slice go gn gc) (.int .i64 0) (.int .i64 now)) (crr a b f s (.slice bo bn bc) (.slice go gn gc) 0 now) ⟨a, b, f, s, l, rt, 0, now⟩) := by
      have s9 := stp_set8 v4 (w.heap.size + 1 + 1) (.int .i64 a) (.int .i64 b) (.int .i64 f) (.int .i64 s) (.slice bo bn bc) (.slice go gn gc) (.int .i64 0) (.int .i64 now)
      refine ⟨_, _, rfl, InRow.mono (InRow.step (InRow.of (ownB_lay.1 HOB.out)) s9 (.inl (by omega))) (by omega) (by rw [set8_size]; exact Nat.le_refl _), InRow.mono (InRow.step (InRow.of (ownG_lay.1 HOG.out)) s9 (.inl (by omega))) (by omega) (by rw [set8_size]; exact Nat.le_refl _)⟩
     clear HOB HOG
     go_wp2
     refine bodyPost_ret (v := .tuple #[crr a b f s (.slice bo bn bc) (.slice go gn gc) 0 now, .bool true]) (by simp [results, Tryz.results30, go_sem, r0, r1, r2, r3, r4, r5, r6, r7]) rfl ⟨_, rfl, by rw [HM.out]; exact HFI.out, set8_below HB.out (by omega) _ _ _ _ _ _ _ _⟩

set_option maxRecDepth 100000 in
set_option maxHeartbeats 4000000 in
theorem implSend_any (kj : Int) (o : Option Addr) (nj c : Nat) (sj kp : Int) (ob : Option Addr) (np cb : Nat) (oR : Option Addr) (nr cR : Nat) (ot : Option Addr) (nt ct : Nat) (lj : List Cd) (lb : List Bk) (lr : List (List (List Int))) (lt : List Sl) (now a b f s : Int) (po : Option Addr) (pn pc : Nat) (l : List Int) (w : World)
  (hnj : nj = lj.length) (hnt : nt = lt.length) (h1 : RdC w.heap.size w o lj) (h1c : o = none → c = 0) (h2 : RdPm w.heap.size w (plv kp (.slice ob np cb) (.slice oR nr cR)) ⟨kp, lb, lr⟩) (h4 : RdS w.heap.size w ot lt) (hf : fitB0 ⟨⟨kj, lj, sj⟩, ⟨kp, lb, lr⟩, lt⟩) (hpn : pn = l.length) (hpR : Rd w po l) (hpc : po = none → pc = 0) (hpl : l.length ≤ 1048576) :
  Calls Tryz.prog 31 #[balv kj (.slice o nj c) sj kp (.slice ob np cb) (.slice oR nr cR) (.slice ot nt ct), .int .i64 now, pkt a b f s (.slice po pn pc)] w fun e w' => ∃ v, e = .returned (.tuple #[v, .bool (sendB ⟨⟨kj, lj, sj⟩, ⟨kp, lb, lr⟩, lt⟩ now a b f s l.length)]) ∧ InCm w.heap.size w'.heap.size w' v (sendM ⟨⟨kj, lj, sj⟩, ⟨kp, lb, lr⟩, lt⟩ now a b f s l) ∧ Below w.heap.size w w' := by
 have HBF := hide (fun W (hb : Below w.heap.size w W) => balFrom_any kj o nj c sj kp ob np cb oR nr cR ot nt ct lj lb lr lt W hnj hnt ((h1.kept hb (Nat.le_refl _)).le hb.size) h1c ((h2.kept hb (Nat.le_refl _)).le hb.size) ((h4.kept hb (Nat.le_refl _)).le hb.size) hf)
 have f7 : lt.length ≤ 1048576 := hf.2.2
 have hpm : pn ≤ maxLen := by unfold maxLen; omega
 have HBP := hide (fun h => balB_pos (m := ⟨⟨kj, lj, sj⟩, ⟨kp, lb, lr⟩, lt⟩) h)
 have HPB := hide (fun h => balB_pool (m := ⟨⟨kj, lj, sj⟩, ⟨kp, lb, lr⟩, lt⟩) h)
 have HSM := hide (fun h => balB_same (m := ⟨⟨kj, lj, sj⟩, ⟨kp, lb, lr⟩, lt⟩) h)
 have HVL := hide (fun h => balB_val (m := ⟨⟨kj, lj, sj⟩, ⟨kp, lb, lr⟩, lt⟩) h a b)
 have HFT := hide (fun h => balB_fit (m := ⟨⟨kj, lj, sj⟩, ⟨kp, lb, lr⟩, lt⟩) h)
 have HSX := hide (fun h h2 => route_six (m := ⟨⟨kj, lj, sj⟩, ⟨kp, lb, lr⟩, lt⟩) (a := a) (b := b) (f := f) (s := s) (n := pn) h h2)
 have HPF := hide (fun h => packet_flow (a := a) (b := b) (f := f) (s := s) (n := pn) h)
 have HSB := hide (show sendB ⟨⟨kj, lj, sj⟩, ⟨kp, lb, lr⟩, lt⟩ now a b f s l.length = ((balB ⟨⟨kj, lj, sj⟩, ⟨kp, lb, lr⟩, lt⟩ && (nowB now && packetOkB a b f s l.length)) && decide (0 < (routeQ kp lr lt a b f).length)) from rfl)
 have HM := hide (show sendM ⟨⟨kj, lj, sj⟩, ⟨kp, lb, lr⟩, lt⟩ now a b f s l = if sendB ⟨⟨kj, lj, sj⟩, ⟨kp, lb, lr⟩, lt⟩ now a b f s l.length = true then ⟨a, b, f, s, l, routeQ kp lr lt a b f, 0, now⟩ else cm0 from rfl)
 dsimp only at HPB HSM HVL HBP HFT HSX
 rw [← hpn] at HSB HM
 rw [← hpn]
 have HPR := hide (And.intro hpR (And.intro hpc hpn))
 clear h1 h2 h4 hnj hnt hf hpR hpc hpn
 obtain ⟨bb, hbb⟩ : ∃ x, balB ⟨⟨kj, lj, sj⟩, ⟨kp, lb, lr⟩, lt⟩ = x := ⟨_, rfl⟩
 obtain ⟨mr, hmr⟩ : ∃ r, sendM ⟨⟨kj, lj, sj⟩, ⟨kp, lb, lr⟩, lt⟩ now a b f s l = r := ⟨_, rfl⟩
 obtain ⟨sb, hsb⟩ : ∃ r, sendB ⟨⟨kj, lj, sj⟩, ⟨kp, lb, lr⟩, lt⟩ now a b f s pn = r := ⟨_, rfl⟩
 rw [hmr, hsb]
 rw [hbb] at HBF HBP HPB HSM HVL HFT HSX HSB
 rw [hmr, hsb] at HM
 rw [hsb] at HSB
 clear hbb hmr hsb
 obtain ⟨nb, hnb⟩ : ∃ x, nowB now = x := ⟨_, rfl⟩
 obtain ⟨pb, hpb⟩ : ∃ x, packetOkB a b f s pn = x := ⟨_, rfl⟩
 have HPO := hide hpb
 have HNO := hide hnb
 rw [hpb] at HPF HSX HSB
 rw [hnb] at HSB
 clear hpb hnb
 obtain ⟨W0, hW0⟩ : ∃ W, (((w.alloc (.cells #[.int .i64 kj, .slice o nj c, .int .i64 sj, .int .i64 kp, .slice ob np cb, .slice oR nr cR, .slice ot nt ct] 46)).alloc (.cells #[.int .i64 a, .int .i64 b, .int .i64 f, .int .i64 s, .slice po pn pc] 68)).alloc (.cells #[.int .i64 0, .int .i64 0, .int .i64 0, .int .i64 0, .slice none 0 0, .slice none 0 0, .int .i64 0, .int .i64 0] 76)) = W := ⟨_, rfl⟩
 have hb_W0 : Below w.heap.size w W0 := by rw [← hW0]; exact ((((Below.refl _ _).alloc (Nat.le_refl _) _).alloc (by simp <;> omega) _).alloc (by simp <;> omega) _)
 have HB := hide hb_W0
 clear hb_W0
 have zz : w.heap.size < W0.heap.size := by rw [← hW0]; simp <;> omega
 have z0 : W0.cell? ⟨w.heap.size, 0, none⟩ = some (.int .i64 kj) := by rw [← hW0]; simp [go_sem]
 have z1 : W0.cell? ⟨w.heap.size, 1, none⟩ = some (.slice o nj c) := by rw [← hW0]; simp [go_sem]
 have z2 : W0.cell? ⟨w.heap.size, 2, none⟩ = some (.int .i64 sj) := by rw [← hW0]; simp [go_sem]
 have z3 : W0.cell? ⟨w.heap.size, 3, none⟩ = some (.int .i64 kp) := by rw [← hW0]; simp [go_sem]
 have z4 : W0.cell? ⟨w.heap.size, 4, none⟩ = some (.slice ob np cb) := by rw [← hW0]; simp [go_sem]
 have z5 : W0.cell? ⟨w.heap.size, 5, none⟩ = some (.slice oR nr cR) := by rw [← hW0]; simp [go_sem]
 have z6 : W0.cell? ⟨w.heap.size, 6, none⟩ = some (.slice ot nt ct) := by rw [← hW0]; simp [go_sem]
 have zp : w.heap.size + 1 < W0.heap.size := by rw [← hW0]; simp <;> omega
 have p0 : W0.cell? ⟨w.heap.size + 1, 0, none⟩ = some (.int .i64 a) := by rw [← hW0]; simp [go_sem]
 have p1 : W0.cell? ⟨w.heap.size + 1, 1, none⟩ = some (.int .i64 b) := by rw [← hW0]; simp [go_sem]
 have p2 : W0.cell? ⟨w.heap.size + 1, 2, none⟩ = some (.int .i64 f) := by rw [← hW0]; simp [go_sem]
 have p3 : W0.cell? ⟨w.heap.size + 1, 3, none⟩ = some (.int .i64 s) := by rw [← hW0]; simp [go_sem]
 have p4 : W0.cell? ⟨w.heap.size + 1, 4, none⟩ = some (.slice po pn pc) := by rw [← hW0]; simp [go_sem]
 have zr : w.heap.size + 1 + 1 < W0.heap.size := by rw [← hW0]; simp
 have r0 : W0.cell? ⟨w.heap.size + 1 + 1, 0, none⟩ = some (.int .i64 0) := by rw [← hW0]; simp [go_sem]
 have r1 : W0.cell? ⟨w.heap.size + 1 + 1, 1, none⟩ = some (.int .i64 0) := by rw [← hW0]; simp [go_sem]
 have r2 : W0.cell? ⟨w.heap.size + 1 + 1, 2, none⟩ = some (.int .i64 0) := by rw [← hW0]; simp [go_sem]
 have r3 : W0.cell? ⟨w.heap.size + 1 + 1, 3, none⟩ = some (.int .i64 0) := by rw [← hW0]; simp [go_sem]
 have r4 : W0.cell? ⟨w.heap.size + 1 + 1, 4, none⟩ = some (.slice none 0 0) := by rw [← hW0]; simp [go_sem]
 have r5 : W0.cell? ⟨w.heap.size + 1 + 1, 5, none⟩ = some (.slice none 0 0) := by rw [← hW0]; simp [go_sem]
 have r6 : W0.cell? ⟨w.heap.size + 1 + 1, 6, none⟩ = some (.int .i64 0) := by rw [← hW0]; simp [go_sem]
 have r7 : W0.cell? ⟨w.heap.size + 1 + 1, 7, none⟩ = some (.int .i64 0) := by rw [← hW0]; simp [go_sem]
 have fr0 : W0.frozen? ⟨w.heap.size + 1 + 1, 0, none⟩ = false := by rw [← hW0]; simp [go_sem]
 have fr1 : W0.frozen? ⟨w.heap.size + 1 + 1, 1, none⟩ = false := by rw [← hW0]; simp [go_sem]
 have fr2 : W0.frozen? ⟨w.heap.size + 1 + 1, 2, none⟩ = false := by rw [← hW0]; simp [go_sem]
 have fr3 : W0.frozen? ⟨w.heap.size + 1 + 1, 3, none⟩ = false := by rw [← hW0]; simp [go_sem]
 have fr4 : W0.frozen? ⟨w.heap.size + 1 + 1, 4, none⟩ = false := by rw [← hW0]; simp [go_sem]
 have fr5 : W0.frozen? ⟨w.heap.size + 1 + 1, 5, none⟩ = false := by rw [← hW0]; simp [go_sem]
 have fr6 : W0.frozen? ⟨w.heap.size + 1 + 1, 6, none⟩ = false := by rw [← hW0]; simp [go_sem]
 have fr7 : W0.frozen? ⟨w.heap.size + 1 + 1, 7, none⟩ = false := by rw [← hW0]; simp [go_sem]
 have hzr : w.heap.size + 1 + 1 < W0.heap.size := zr
 go_enter Tryz.func31, Tryz.ntmps31
 go_wp2_with fail
 refine (HBF.out W0 HB.out).mono ?_
 rintro e v1 ⟨xo, xn, xc, kq, yo, yn, yc, sq, kr, uo, un, uc, vo, vn, vc, rfl, hin, hb⟩
 have HIN := hide hin
 have hs1 := hb.size
 clear hin HBF
 replace z0 := bC hb z0 zz
 replace z1 := bC hb z1 zz
 replace z2 := bC hb z2 zz
 replace z3 := bC hb z3 zz
 replace z4 := bC hb z4 zz
 replace z5 := bC hb z5 zz
 replace z6 := bC hb z6 zz
 replace zz := Nat.lt_of_lt_of_le zz hb.size
 replace p0 := bC hb p0 zp
 replace p1 := bC hb p1 zp
 replace p2 := bC hb p2 zp
 replace p3 := bC hb p3 zp
 replace p4 := bC hb p4 zp
 replace zp := Nat.lt_of_lt_of_le zp hb.size
 replace r0 := bC hb r0 zr
 replace r1 := bC hb r1 zr
 replace r2 := bC hb r2 zr
 replace r3 := bC hb r3 zr
 replace r4 := bC hb r4 zr
 replace r5 := bC hb r5 zr
 replace r6 := bC hb r6 zr
 replace r7 := bC hb r7 zr
 replace fr0 := bF hb fr0 zr
 replace fr1 := bF hb fr1 zr
 replace fr2 := bF hb fr2 zr
 replace fr3 := bF hb fr3 zr
 replace fr4 := bF hb fr4 zr
 replace fr5 := bF hb fr5 zr
 replace fr6 := bF hb fr6 zr
 replace fr7 := bF hb fr7 zr
 replace zr := Nat.lt_of_lt_of_le zr hb.size
 replace HB := hide (HB.out.trans (hb.mono HB.out.size))
 clear hb
 cases bb with
 | false =>
  obtain ⟨W2, hW2⟩ : ∃ W, (v1.alloc (.cells #[.slice xo xn xc, .int .i64 kq, .slice yo yn yc, .int .i64 sq, .int .i64 kr, .slice uo un uc, .slice vo vn vc] 109)) = W := ⟨_, rfl⟩
  have hb_W2 : Below v1.heap.size v1 W2 := by rw [← hW2]; exact ((Below.refl _ _).alloc (Nat.le_refl _) _)
  replace z0 := bC hb_W2 z0 zz
  replace z1 := bC hb_W2 z1 zz
  replace z2 := bC hb_W2 z2 zz
  replace z3 := bC hb_W2 z3 zz
  replace z4 := bC hb_W2 z4 zz
  replace z5 := bC hb_W2 z5 zz
  replace z6 := bC hb_W2 z6 zz
  replace zz := Nat.lt_of_lt_of_le zz hb_W2.size
  replace p0 := bC hb_W2 p0 zp
  replace p1 := bC hb_W2 p1 zp
  replace p2 := bC hb_W2 p2 zp
  replace p3 := bC hb_W2 p3 zp
  replace p4 := bC hb_W2 p4 zp
  replace zp := Nat.lt_of_lt_of_le zp hb_W2.size
  replace r0 := bC hb_W2 r0 zr
  replace r1 := bC hb_W2 r1 zr
  replace r2 := bC hb_W2 r2 zr
  replace r3 := bC hb_W2 r3 zr
  replace r4 := bC hb_W2 r4 zr
  replace r5 := bC hb_W2 r5 zr
  replace r6 := bC hb_W2 r6 zr
  replace r7 := bC hb_W2 r7 zr
  replace fr0 := bF hb_W2 fr0 zr
  replace fr1 := bF hb_W2 fr1 zr
  replace fr2 := bF hb_W2 fr2 zr
  replace fr3 := bF hb_W2 fr3 zr
  replace fr4 := bF hb_W2 fr4 zr
  replace fr5 := bF hb_W2 fr5 zr
  replace fr6 := bF hb_W2 fr6 zr
  replace fr7 := bF hb_W2 fr7 zr
  replace zr := Nat.lt_of_lt_of_le zr hb_W2.size
  replace HB := hide (HB.out.trans (hb_W2.mono HB.out.size))
  clear hb_W2
  have zx : v1.heap.size < W2.heap.size := by rw [← hW2]; simp
  have x0 : W2.cell? ⟨v1.heap.size, 0, none⟩ = some (.slice xo xn xc) := by rw [← hW2]; simp [go_sem]
  have x1 : W2.cell? ⟨v1.heap.size, 1, none⟩ = some (.int .i64 kq) := by rw [← hW2]; simp [go_sem]
  have x2 : W2.cell? ⟨v1.heap.size, 2, none⟩ = some (.slice yo yn yc) := by rw [← hW2]; simp [go_sem]
  have x3 : W2.cell? ⟨v1.heap.size, 3, none⟩ = some (.int .i64 sq) := by rw [← hW2]; simp [go_sem]
  have x4 : W2.cell? ⟨v1.heap.size, 4, none⟩ = some (.int .i64 kr) := by rw [← hW2]; simp [go_sem]
  have x5 : W2.cell? ⟨v1.heap.size, 5, none⟩ = some (.slice uo un uc) := by rw [← hW2]; simp [go_sem]
  have x6 : W2.cell? ⟨v1.heap.size, 6, none⟩ = some (.slice vo vn vc) := by rw [← hW2]; simp [go_sem]
  clear HIN
  have e0 : sb = false := by rw [HSB.out]; simp
  subst e0
  go_wp2
  refine bodyPost_ret (v := .tuple #[crr 0 0 0 0 (.slice none 0 0) (.slice none 0 0) 0 0, .bool false]) (by simp [results, Tryz.results31, go_sem, r0, r1, r2, r3, r4, r5, r6, r7]) rfl ⟨_, rfl, ?_, set8_below HB.out (by omega) _ _ _ _ _ _ _ _⟩
  rw [HM.out]
  exact cm0_in _ _ _
 | true =>
  have hn := HBP.out rfl
  have hpo := HPB.out rfl
  have hsm := HSM.out rfl
  have hvl := HVL.out rfl
  have hft := HFT.out rfl
  obtain ⟨g, a2, b2, k1, k2, k3, k4, e1, e2, e3, rfl, rfl, i1, i2, i3⟩ := inBl_open (HIN.out rfl) hn
  rw [← hsm] at i1 e3
  dsimp only at i1 e3
  subst e3
  have HO := hide i2
  have HIP := hide i1
  have hk9 : a2 ≤ v1.heap.size := by omega
  have HVF := hide (And.intro hvl hft)
  clear i1 i2 i3 HIN e1 e2 hsm HSM hvl hft HVL HFT
  obtain ⟨W2, hW2⟩ : ∃ W, (v1.alloc (.cells #[.slice (some ⟨g, 0, none⟩) lt.length xc, .int .i64 kq, .slice yo yn yc, .int .i64 sq, .int .i64 kr, .slice uo un uc, .slice vo vn vc] 109)) = W := ⟨_, rfl⟩
  have hb_W2 : Below v1.heap.size v1 W2 := by rw [← hW2]; exact ((Below.refl _ _).alloc (Nat.le_refl _) _)
  replace z0 := bC hb_W2 z0 zz
  replace z1 := bC hb_W2 z1 zz
  replace z2 := bC hb_W2 z2 zz
  replace z3 := bC hb_W2 z3 zz
  replace z4 := bC hb_W2 z4 zz
  replace z5 := bC hb_W2 z5 zz
  replace z6 := bC hb_W2 z6 zz
  replace zz := Nat.lt_of_lt_of_le zz hb_W2.size
  replace p0 := bC hb_W2 p0 zp
  replace p1 := bC hb_W2 p1 zp
  replace p2 := bC hb_W2 p2 zp
  replace p3 := bC hb_W2 p3 zp
  replace p4 := bC hb_W2 p4 zp
  replace zp := Nat.lt_of_lt_of_le zp hb_W2.size
  replace r0 := bC hb_W2 r0 zr
  replace r1 := bC hb_W2 r1 zr
  replace r2 := bC hb_W2 r2 zr
  replace r3 := bC hb_W2 r3 zr
  replace r4 := bC hb_W2 r4 zr
  replace r5 := bC hb_W2 r5 zr
  replace r6 := bC hb_W2 r6 zr
  replace r7 := bC hb_W2 r7 zr
  replace fr0 := bF hb_W2 fr0 zr
  replace fr1 := bF hb_W2 fr1 zr
  replace fr2 := bF hb_W2 fr2 zr
  replace fr3 := bF hb_W2 fr3 zr
  replace fr4 := bF hb_W2 fr4 zr
  replace fr5 := bF hb_W2 fr5 zr
  replace fr6 := bF hb_W2 fr6 zr
  replace fr7 := bF hb_W2 fr7 zr
  replace zr := Nat.lt_of_lt_of_le zr hb_W2.size
  replace HO := hide (own_kept HO.out hb_W2)
  replace HB := hide (HB.out.trans (hb_W2.mono HB.out.size))
  clear hb_W2
  have zx : v1.heap.size < W2.heap.size := by rw [← hW2]; simp
  have x0 : W2.cell? ⟨v1.heap.size, 0, none⟩ = some (.slice (some ⟨g, 0, none⟩) lt.length xc) := by rw [← hW2]; simp [go_sem]
  have x1 : W2.cell? ⟨v1.heap.size, 1, none⟩ = some (.int .i64 kq) := by rw [← hW2]; simp [go_sem]
  have x2 : W2.cell? ⟨v1.heap.size, 2, none⟩ = some (.slice yo yn yc) := by rw [← hW2]; simp [go_sem]
  have x3 : W2.cell? ⟨v1.heap.size, 3, none⟩ = some (.int .i64 sq) := by rw [← hW2]; simp [go_sem]
  have x4 : W2.cell? ⟨v1.heap.size, 4, none⟩ = some (.int .i64 kr) := by rw [← hW2]; simp [go_sem]
  have x5 : W2.cell? ⟨v1.heap.size, 5, none⟩ = some (.slice uo un uc) := by rw [← hW2]; simp [go_sem]
  have x6 : W2.cell? ⟨v1.heap.size, 6, none⟩ = some (.slice vo vn vc) := by rw [← hW2]; simp [go_sem]
  replace HIP := hide (HIP.out.step (Stp.of (lo := 0) (hi := 0) (show Below v1.heap.size v1 W2 by rw [← hW2]; exact (Below.refl _ _).alloc (Nat.le_refl _) _)) (.inl (Nat.zero_le _)))
  have hk2 : v1.heap.size < W2.heap.size := zx
  cases nb with
  | false =>
   go_wp2_with fail
   have hnw := isStamp_any now W2
   change Calls _ _ _ _ (fun e w' => e = .returned (.bool (nowB now)) ∧ _) at hnw
   rw [HNO.out] at hnw
   refine hnw.mono ?_
   rintro e _ ⟨rfl, rfl⟩
   clear hnw
   clear HO HIP
   have e0 : sb = false := by rw [HSB.out]; simp
   subst e0
   go_wp2
   refine bodyPost_ret (v := .tuple #[crr 0 0 0 0 (.slice none 0 0) (.slice none 0 0) 0 0, .bool false]) (by simp [results, Tryz.results31, go_sem, r0, r1, r2, r3, r4, r5, r6, r7]) rfl ⟨_, rfl, ?_, set8_below HB.out (by omega) _ _ _ _ _ _ _ _⟩
   rw [HM.out]
   exact cm0_in _ _ _
  | true =>
   go_wp2_with fail
   have hnw := isStamp_any now W2
   change Calls _ _ _ _ (fun e w' => e = .returned (.bool (nowB now)) ∧ _) at hnw
   rw [HNO.out] at hnw
   refine hnw.mono ?_
   rintro e _ ⟨rfl, rfl⟩
   clear hnw
   have hfl := implPacketOk_any a b f s po pn pc W2 hpm
   rw [HPO.out] at hfl
   cases pb with
   | false =>
    go_wp2_with fail
    refine (hfl).mono ?_
    rintro e v2 ⟨rfl, hb⟩
    replace z0 := bC hb z0 zz
    replace z1 := bC hb z1 zz
    replace z2 := bC hb z2 zz
    replace z3 := bC hb z3 zz
    replace z4 := bC hb z4 zz
    replace z5 := bC hb z5 zz
    replace z6 := bC hb z6 zz
    replace zz := Nat.lt_of_lt_of_le zz hb.size
    replace p0 := bC hb p0 zp
    replace p1 := bC hb p1 zp
    replace p2 := bC hb p2 zp
    replace p3 := bC hb p3 zp
    replace p4 := bC hb p4 zp
    replace zp := Nat.lt_of_lt_of_le zp hb.size
    replace r0 := bC hb r0 zr
    replace r1 := bC hb r1 zr
    replace r2 := bC hb r2 zr
    replace r3 := bC hb r3 zr
    replace r4 := bC hb r4 zr
    replace r5 := bC hb r5 zr
    replace r6 := bC hb r6 zr
    replace r7 := bC hb r7 zr
    replace fr0 := bF hb fr0 zr
    replace fr1 := bF hb fr1 zr
    replace fr2 := bF hb fr2 zr
    replace fr3 := bF hb fr3 zr
    replace fr4 := bF hb fr4 zr
    replace fr5 := bF hb fr5 zr
    replace fr6 := bF hb fr6 zr
    replace fr7 := bF hb fr7 zr
    replace zr := Nat.lt_of_lt_of_le zr hb.size
    replace x0 := bC hb x0 zx
    replace x1 := bC hb x1 zx
    replace x2 := bC hb x2 zx
    replace x3 := bC hb x3 zx
    replace x4 := bC hb x4 zx
    replace x5 := bC hb x5 zx
    replace x6 := bC hb x6 zx
    replace zx := Nat.lt_of_lt_of_le zx hb.size
    replace HO := hide (own_kept HO.out hb)
    replace HB := hide (HB.out.trans (hb.mono HB.out.size))
    clear hb
    clear hfl HO HIP
    have e0 : sb = false := by rw [HSB.out]; simp
    subst e0
    go_wp2
    refine bodyPost_ret (v := .tuple #[crr 0 0 0 0 (.slice none 0 0) (.slice none 0 0) 0 0, .bool false]) (by simp [results, Tryz.results31, go_sem, r0, r1, r2, r3, r4, r5, r6, r7]) rfl ⟨_, rfl, ?_, set8_below HB.out (by omega) _ _ _ _ _ _ _ _⟩
    rw [HM.out]
    exact cm0_in _ _ _
   | true =>
    go_wp2_with fail
    refine (hfl).mono ?_
    rintro e v2 ⟨rfl, hb⟩
    replace HIP := hide (HIP.out.step (Stp.of (lo := 0) (hi := 0) hb) (.inl (Nat.zero_le _)))
    have hk3 := hb.size
    replace z0 := bC hb z0 zz
    replace z1 := bC hb z1 zz
    replace z2 := bC hb z2 zz
    replace z3 := bC hb z3 zz
    replace z4 := bC hb z4 zz
    replace z5 := bC hb z5 zz
    replace z6 := bC hb z6 zz
    replace zz := Nat.lt_of_lt_of_le zz hb.size
    replace p0 := bC hb p0 zp
    replace p1 := bC hb p1 zp
    replace p2 := bC hb p2 zp
    replace p3 := bC hb p3 zp
    replace p4 := bC hb p4 zp
    replace zp := Nat.lt_of_lt_of_le zp hb.size
    replace r0 := bC hb r0 zr
    replace r1 := bC hb r1 zr
    replace r2 := bC hb r2 zr
    replace r3 := bC hb r3 zr
    replace r4 := bC hb r4 zr
    replace r5 := bC hb r5 zr
    replace r6 := bC hb r6 zr
    replace r7 := bC hb r7 zr
    replace fr0 := bF hb fr0 zr
    replace fr1 := bF hb fr1 zr
    replace fr2 := bF hb fr2 zr
    replace fr3 := bF hb fr3 zr
    replace fr4 := bF hb fr4 zr
    replace fr5 := bF hb fr5 zr
    replace fr6 := bF hb fr6 zr
    replace fr7 := bF hb fr7 zr
    replace zr := Nat.lt_of_lt_of_le zr hb.size
    replace x0 := bC hb x0 zx
    replace x1 := bC hb x1 zx
    replace x2 := bC hb x2 zx
    replace x3 := bC hb x3 zx
    replace x4 := bC hb x4 zx
    replace x5 := bC hb x5 zx
    replace x6 := bC hb x6 zx
    replace zx := Nat.lt_of_lt_of_le zx hb.size
    replace HO := hide (own_kept HO.out hb)
    replace HB := hide (HB.out.trans (hb.mono HB.out.size))
    clear hb
    clear hfl
    have hsx := HSX.out (by first | rfl | trivial) (by first | rfl | trivial)
    have hfo := HPF.out (by first | rfl | trivial)
    have HG := hide (sendI_any g lt.length xc kq yo yn yc sq kr uo un uc vo vn vc now a b f s po pn pc l (routeQ kr lr lt a b f) _ _ v2 rfl rfl HPR.out.2.2 (HPR.out.1.kept HB.out) HPR.out.2.1 hpl hsx (fun W hb => route_any g lt.length xc a2 kq yo yn yc sq kr uo un uc vo vn vc lb lr lt a b f s po pn pc W rfl hn f7 hpm HPO.out hfo HVF.out.1 ((HIP.out.rd.le (by omega)).kept hb (Nat.le_refl _) |>.le hb.size) hpo HVF.out.2 (own_kept HO.out hb)))
    clear HIP HPO HPF HVF hpo HBP HPB HSX hsx hfo HO HPR
    obtain ⟨db, hdb⟩ : ∃ x, decide (0 < (routeQ kr lr lt a b f).length) = x := ⟨_, rfl⟩
    rw [hdb] at HG HSB
    clear hdb
    obtain ⟨cmr, hcmr⟩ : ∃ x : Cm, (if db = true then (⟨a, b, f, s, l, routeQ kr lr lt a b f, 0, now⟩ : Cm) else cm0) = x := ⟨_, rfl⟩
    rw [hcmr] at HG
    have HCM := hide hcmr
    clear hcmr
    have e0 : sb = db := by rw [HSB.out]; cases db <;> rfl
    subst e0
    have HM2 : Hid (mr = cmr) := by unfold Hid; rw [HM.out, ← HCM.out]
    clear HM HCM HSB
    go_wp2_with fail
    refine (HG.out).mono ?_
    rintro e v3 ⟨xo2, xn2, xk2, yo2, yn2, yk2, q1, q2, q3, q4, q5, rfl, inc, hb⟩
    have HIC := hide inc
    have hs4 := hb.size
    clear inc
    replace z0 := bC hb z0 zz
    replace z1 := bC hb z1 zz
    replace z2 := bC hb z2 zz
    replace z3 := bC hb z3 zz
    replace z4 := bC hb z4 zz
    replace z5 := bC hb z5 zz
    replace z6 := bC hb z6 zz
    replace zz := Nat.lt_of_lt_of_le zz hb.size
    replace p0 := bC hb p0 zp
    replace p1 := bC hb p1 zp
    replace p2 := bC hb p2 zp
    replace p3 := bC hb p3 zp
    replace p4 := bC hb p4 zp
    replace zp := Nat.lt_of_lt_of_le zp hb.size
    replace r0 := bC hb r0 zr
    replace r1 := bC hb r1 zr
    replace r2 := bC hb r2 zr
    replace r3 := bC hb r3 zr
    replace r4 := bC hb r4 zr
    replace r5 := bC hb r5 zr
    replace r6 := bC hb r6 zr
    replace r7 := bC hb r7 zr
    replace fr0 := bF hb fr0 zr
    replace fr1 := bF hb fr1 zr
    replace fr2 := bF hb fr2 zr
    replace fr3 := bF hb fr3 zr
    replace fr4 := bF hb fr4 zr
    replace fr5 := bF hb fr5 zr
    replace fr6 := bF hb fr6 zr
    replace fr7 := bF hb fr7 zr
    replace zr := Nat.lt_of_lt_of_le zr hb.size
    replace x0 := bC hb x0 zx
    replace x1 := bC hb x1 zx
    replace x2 := bC hb x2 zx
    replace x3 := bC hb x3 zx
    replace x4 := bC hb x4 zx
    replace x5 := bC hb x5 zx
    replace x6 := bC hb x6 zx
    replace zx := Nat.lt_of_lt_of_le zx hb.size
    replace HB := hide (HB.out.trans (hb.mono HB.out.size))
    clear hb
    clear HG
    have HFI : Hid (InCm w.heap.size (set8 v3 (w.heap.size + 1 + 1) (.int .i64 q1) (.int .i64 q2) (.int .i64 q3) (.int .i64 q4) (.slice xo2 xn2 xk2) (.slice yo2 yn2 yk2) (.int .i64 0) (.int .i64 q5)).heap.size (set8 v3 (w.heap.size + 1 + 1) (.int .i64 q1) (.int .i64 q2) (.int .i64 q3) (.int .i64 q4) (.slice xo2 xn2 xk2) (.slice yo2 yn2 yk2) (.int .i64 0) (.int .i64 q5)) (crr q1 q2 q3 q4 (.slice xo2 xn2 xk2) (.slice yo2 yn2 yk2) 0 q5) cmr) := (HIC.out.step (stp_set8 v3 (w.heap.size + 1 + 1) (.int .i64 q1) (.int .i64 q2) (.int .i64 q3) (.int .i64 q4) (.slice xo2 xn2 xk2) (.slice yo2 yn2 yk2) (.int .i64 0) (.int .i64 q5)) (.inl (by omega))).mono (by omega) (by rw [set8_size]; exact Nat.le_refl _)
    clear HIC
    go_wp2
    refine bodyPost_ret (v := .tuple #[crr q1 q2 q3 q4 (.slice xo2 xn2 xk2) (.slice yo2 yn2 yk2) 0 q5, .bool sb]) (by simp [results, Tryz.results31, go_sem, r0, r1, r2, r3, r4, r5, r6, r7]) rfl ⟨_, rfl, by rw [HM2.out]; exact HFI.out, set8_below HB.out (by omega) _ _ _ _ _ _ _ _⟩

end Go.Proofs.YtajfkcpifnpkeaaGreat

/- Packets, as a shape; rows of segs in the laws' words. -/
namespace Go.Proofs.YtajfkcpifnpkeaaGreat
open Go.ChangeShapes Go.WideShapes Go.ChangeAt Go.RowKit Go.Joins
set_option linter.unusedVariables false
set_option linter.unusedSimpArgs false


/-- A packet, as the model has it. -/
structure Pk where
 a : Int
 b : Int
 f : Int
 s : Int
 l : List Int
def RdPk (C : Nat) (w : World) (v : Value) (m : Pk) : Prop := ∃ vl, v = pkt m.a m.b m.f m.s vl ∧ RdV layB C w vl m.l
def InPk (lo hi : Nat) (w : World) (v : Value) (m : Pk) : Prop := ∃ vl, v = pkt m.a m.b m.f m.s vl ∧ InB lo hi w vl m.l
theorem RdPk.kept {C D : Nat} {w w' : World} {v : Value} {m : Pk} (h : RdPk C w v m) (hb : Below D w w') (hc : C ≤ D) : RdPk C w' v m := by
 obtain ⟨vl, e, h1⟩ := h
 exact ⟨vl, e, h1.kept hb hc⟩
theorem RdPk.le {C D : Nat} {w : World} {v : Value} {m : Pk} (h : RdPk C w v m) (hc : C ≤ D) : RdPk D w v m := by
 obtain ⟨vl, e, h1⟩ := h
 exact ⟨vl, e, h1.le hc⟩
theorem InPk.rd {lo hi : Nat} {w : World} {v : Value} {m : Pk} (h : InPk lo hi w v m) : RdPk hi w v m := by
 obtain ⟨vl, e, h1⟩ := h
 exact ⟨vl, e, InL.rd (L := layB) h1⟩
theorem InPk.step {a b lo hi : Nat} {w w' : World} {v : Value} {m : Pk} (h : InPk a b w v m) (s : Stp lo hi w w') (hd : hi ≤ a ∨ b ≤ lo) : InPk a b w' v m := by
 obtain ⟨vl, e, h1⟩ := h
 exact ⟨vl, e, InRow.step h1 s hd⟩
theorem RdPk.opn {C : Nat} {w : World} {v : Value} {m : Pk} (h : RdPk C w v m) : ∃ (o : Option Addr) (c : Nat), v = pkt m.a m.b m.f m.s (.slice o m.l.length c) := by
 obtain ⟨vl, e, o, c, e1, _⟩ := h
 exact ⟨o, c, by rw [e, e1]⟩
theorem RdPk.mk {w : World} {a b f s : Int} {o : Option Addr} {c : Nat} {l : List Int} (h : Rd w o l) : RdPk w.heap.size w (pkt a b f s (.slice o l.length c)) ⟨a, b, f, s, l⟩ := ⟨_, rfl, o, c, rfl, RdB_rd.2 h⟩
theorem toPacket_sh (v : Value) (m : Pk) (w : World) (hR : RdPk w.heap.size w v m) (hB8 : isB m.l) (hl : m.l.length ≤ 1048576) :
  Calls Tryz.prog 23 #[v] w fun e w' => ∃ v', e = .returned v' ∧ InPk w.heap.size w'.heap.size w' v' m ∧ Below w.heap.size w w' := by
 obtain ⟨vl, rfl, o, c, rfl, r⟩ := hR
 refine (toPacket_any m.a m.b m.f m.s o c m.l w (RdB_rd.1 r) hB8 hl).mono ?_
 rintro e w' ⟨g, rfl, ho, hb⟩
 exact ⟨_, rfl, ⟨_, rfl, InRow.of (ownB_lay.1 ho)⟩, hb⟩
theorem eqPacket_sh (v1 v2 : Value) (m : Pk) (w : World) (h1 : RdPk w.heap.size w v1 m) (h2 : RdPk w.heap.size w v2 m) (hl : m.l.length ≤ 1048576) :
  Calls Tryz.prog 26 #[v1, v2] w fun e w' => e = .returned (.bool true) ∧ Below w.heap.size w w' := by
 obtain ⟨vl, rfl, o, c, rfl, r⟩ := h1
 obtain ⟨vl, rfl, o', c', rfl, r'⟩ := h2
 exact eqPacket_same m.a m.b m.f m.s o o' c c' m.l w (RdB_rd.1 r) (RdB_rd.1 r') hl
theorem markPacket_sh (lo hi : Nat) (v : Value) (m : Pk) (k : Int) (w : World) (hv : InPk lo hi w v m) (h0 : 0 ≤ k) (h1 : k ≤ 1073741824) (hl : m.l.length ≤ 1048576) :
  Calls Tryz.prog 27 #[v, .int .i64 k] w fun e w' => e = .returned (.int .i64 (k + m.l.length)) ∧ Stp lo hi w w' := by
 obtain ⟨vl, rfl, i1⟩ := hv
 refine (markPacket_any lo m.a m.b m.f m.s vl m.l k w (ownB_lay.2 i1.1) h0 h1 hl).mono ?_
 rintro e w' ⟨rfl, _, hg⟩
 exact ⟨rfl, Stp.grown hg (fun b e => ⟨(i1.1.lt b e).1, i1.2 b e⟩)⟩
theorem RdL.segs {w : World} {o : Option Addr} {l : List (Int × Int)} (h : RdL layG w.heap.size w o l) : RdG w o l := by
 rcases h with h | ⟨b, off, ho, hb, r⟩
 ·exact .inl h
 ·exact .inr ⟨b, off, ho, hb, fun i hi => ⟨r i hi 0 (by decide), r i hi 1 (by decide)⟩⟩
end Go.Proofs.YtajfkcpifnpkeaaGreat

/- A box of a carrier that is laid at any place among calls: what its end wants. -/
namespace Go.Proofs.YtajfkcpifnpkeaaGreat
open Go.ChangeShapes Go.WideShapes Go.ChangeAt Go.RowKit Go.Joins
set_option linter.unusedVariables false
set_option linter.unusedSimpArgs false

theorem InCm.opn {lo hi : Nat} {w : World} {v : Value} {m : Cm} (h : InCm lo hi w v m) : ∃ (o : Option Addr) (c : Nat) (og : Option Addr) (cg : Nat), v = crr m.a m.b m.f m.s (.slice o m.l.length c) (.slice og m.g.length cg) m.pl m.st := by
 obtain ⟨vl, vg, e, ⟨o, c, e1, _⟩, ⟨og, cg, e2, _⟩⟩ := h.rd
 exact ⟨o, c, og, cg, by rw [e, e1, e2]⟩
theorem set8_cell {W : World} {B b j : Nat} {u : Value} (h : W.cell? ⟨b, j, none⟩ = some u) (hb : b < B) (x0 x1 x2 x3 x4 x5 x6 x7 : Value) : (set8 W B x0 x1 x2 x3 x4 x5 x6 x7).cell? ⟨b, j, none⟩ = some u := (stp_set8 W B x0 x1 x2 x3 x4 x5 x6 x7).cellP h (.inl hb)
theorem box_newC {w new : World} {c : Array Value} {T : TypeId} (hb : Below (w.alloc (.cells c T)).heap.size (w.alloc (.cells c T)) new) : new.heap[w.heap.size]? = some (.cells c T (0, 0)) :=
 (hb.block w.heap.size (by simp)).trans (World.alloc_heap_new w (.cells c T))
theorem box_newC0 {w new : World} {c : Array Value} {T : TypeId} (hb : Below ((w.alloc (.cells c T)).drew).heap.size (w.alloc (.cells c T)).drew new) : new.heap[w.heap.size]? = some (.cells c T (0, 0)) := by
 have h1 := hb.block w.heap.size (by simp)
 have h2 : (w.alloc (.cells c T)).drew.heap[w.heap.size]? = (w.alloc (.cells c T)).heap[w.heap.size]? := rfl
 exact h1.trans (h2.trans (World.alloc_heap_new w (.cells c T)))
theorem set8_box {W : World} {R : Nat} {z0 z1 z2 z3 z4 z5 z6 z7 : Value} {T : TypeId} (h : W.heap[R]? = some (.cells #[z0, z1, z2, z3, z4, z5, z6, z7] T (0, 0))) (x0 x1 x2 x3 x4 x5 x6 x7 : Value) : (set8 W R x0 x1 x2 x3 x4 x5 x6 x7).heap[R]? = some (.cells #[x0, x1, x2, x3, x4, x5, x6, x7] T (0, 0)) := by
 have h0 : (W.setCell ⟨R, 0, none⟩ x0).heap[R]? = some (.cells #[x0, z1, z2, z3, z4, z5, z6, z7] T (0, 0)) := box_put h 0 x0
 have h1 : ((W.setCell ⟨R, 0, none⟩ x0).setCell ⟨R, 1, none⟩ x1).heap[R]? = some (.cells #[x0, x1, z2, z3, z4, z5, z6, z7] T (0, 0)) := box_put h0 1 x1
 have h2 : (((W.setCell ⟨R, 0, none⟩ x0).setCell ⟨R, 1, none⟩ x1).setCell ⟨R, 2, none⟩ x2).heap[R]? = some (.cells #[x0, x1, x2, z3, z4, z5, z6, z7] T (0, 0)) := box_put h1 2 x2
 have h3 : ((((W.setCell ⟨R, 0, none⟩ x0).setCell ⟨R, 1, none⟩ x1).setCell ⟨R, 2, none⟩ x2).setCell ⟨R, 3, none⟩ x3).heap[R]? = some (.cells #[x0, x1, x2, x3, z4, z5, z6, z7] T (0, 0)) := box_put h2 3 x3
 have h4 : (((((W.setCell ⟨R, 0, none⟩ x0).setCell ⟨R, 1, none⟩ x1).setCell ⟨R, 2, none⟩ x2).setCell ⟨R, 3, none⟩ x3).setCell ⟨R, 4, none⟩ x4).heap[R]? = some (.cells #[x0, x1, x2, x3, x4, z5, z6, z7] T (0, 0)) := box_put h3 4 x4
 have h5 : ((((((W.setCell ⟨R, 0, none⟩ x0).setCell ⟨R, 1, none⟩ x1).setCell ⟨R, 2, none⟩ x2).setCell ⟨R, 3, none⟩ x3).setCell ⟨R, 4, none⟩ x4).setCell ⟨R, 5, none⟩ x5).heap[R]? = some (.cells #[x0, x1, x2, x3, x4, x5, z6, z7] T (0, 0)) := box_put h4 5 x5
 have h6 : (((((((W.setCell ⟨R, 0, none⟩ x0).setCell ⟨R, 1, none⟩ x1).setCell ⟨R, 2, none⟩ x2).setCell ⟨R, 3, none⟩ x3).setCell ⟨R, 4, none⟩ x4).setCell ⟨R, 5, none⟩ x5).setCell ⟨R, 6, none⟩ x6).heap[R]? = some (.cells #[x0, x1, x2, x3, x4, x5, x6, z7] T (0, 0)) := box_put h5 6 x6
 have h7 : ((((((((W.setCell ⟨R, 0, none⟩ x0).setCell ⟨R, 1, none⟩ x1).setCell ⟨R, 2, none⟩ x2).setCell ⟨R, 3, none⟩ x3).setCell ⟨R, 4, none⟩ x4).setCell ⟨R, 5, none⟩ x5).setCell ⟨R, 6, none⟩ x6).setCell ⟨R, 7, none⟩ x7).heap[R]? = some (.cells #[x0, x1, x2, x3, x4, x5, x6, x7] T (0, 0)) := box_put h6 7 x7
 exact h7
theorem cells8 {W : World} {B : Nat} {z0 z1 z2 z3 z4 z5 z6 z7 : Value} {T : TypeId} (h : W.heap[B]? = some (.cells #[z0, z1, z2, z3, z4, z5, z6, z7] T (0, 0))) : W.cell? ⟨B, 0, none⟩ = some z0 ∧ W.cell? ⟨B, 1, none⟩ = some z1 ∧ W.cell? ⟨B, 2, none⟩ = some z2 ∧ W.cell? ⟨B, 3, none⟩ = some z3 ∧ W.cell? ⟨B, 4, none⟩ = some z4 ∧ W.cell? ⟨B, 5, none⟩ = some z5 ∧ W.cell? ⟨B, 6, none⟩ = some z6 ∧ W.cell? ⟨B, 7, none⟩ = some z7 ∧ W.frozen? ⟨B, 0, none⟩ = false ∧ W.frozen? ⟨B, 1, none⟩ = false ∧ W.frozen? ⟨B, 2, none⟩ = false ∧ W.frozen? ⟨B, 3, none⟩ = false ∧ W.frozen? ⟨B, 4, none⟩ = false ∧ W.frozen? ⟨B, 5, none⟩ = false ∧ W.frozen? ⟨B, 6, none⟩ = false ∧ W.frozen? ⟨B, 7, none⟩ = false :=
 ⟨bx_cell h 0 _ rfl, bx_cell h 1 _ rfl, bx_cell h 2 _ rfl, bx_cell h 3 _ rfl, bx_cell h 4 _ rfl, bx_cell h 5 _ rfl, bx_cell h 6 _ rfl, bx_cell h 7 _ rfl, bx_frozen h 0, bx_frozen h 1, bx_frozen h 2, bx_frozen h 3, bx_frozen h 4, bx_frozen h 5, bx_frozen h 6, bx_frozen h 7⟩
theorem cellsN5 {W : World} {B : Nat} {z0 z1 z2 z3 z4 : Value} {T : TypeId} (h : W.heap[B]? = some (.cells #[z0, z1, z2, z3, z4] T (0, 0))) : W.cell? ⟨B, 0, none⟩ = some z0 ∧ W.cell? ⟨B, 1, none⟩ = some z1 ∧ W.cell? ⟨B, 2, none⟩ = some z2 ∧ W.cell? ⟨B, 3, none⟩ = some z3 ∧ W.cell? ⟨B, 4, none⟩ = some z4 := ⟨bx_cell h 0 _ rfl, bx_cell h 1 _ rfl, bx_cell h 2 _ rfl, bx_cell h 3 _ rfl, bx_cell h 4 _ rfl⟩
theorem cellsN7 {W : World} {B : Nat} {z0 z1 z2 z3 z4 z5 z6 : Value} {T : TypeId} (h : W.heap[B]? = some (.cells #[z0, z1, z2, z3, z4, z5, z6] T (0, 0))) : W.cell? ⟨B, 0, none⟩ = some z0 ∧ W.cell? ⟨B, 1, none⟩ = some z1 ∧ W.cell? ⟨B, 2, none⟩ = some z2 ∧ W.cell? ⟨B, 3, none⟩ = some z3 ∧ W.cell? ⟨B, 4, none⟩ = some z4 ∧ W.cell? ⟨B, 5, none⟩ = some z5 ∧ W.cell? ⟨B, 6, none⟩ = some z6 := ⟨bx_cell h 0 _ rfl, bx_cell h 1 _ rfl, bx_cell h 2 _ rfl, bx_cell h 3 _ rfl, bx_cell h 4 _ rfl, bx_cell h 5 _ rfl, bx_cell h 6 _ rfl⟩
theorem cellsN8 {W : World} {B : Nat} {z0 z1 z2 z3 z4 z5 z6 z7 : Value} {T : TypeId} (h : W.heap[B]? = some (.cells #[z0, z1, z2, z3, z4, z5, z6, z7] T (0, 0))) : W.cell? ⟨B, 0, none⟩ = some z0 ∧ W.cell? ⟨B, 1, none⟩ = some z1 ∧ W.cell? ⟨B, 2, none⟩ = some z2 ∧ W.cell? ⟨B, 3, none⟩ = some z3 ∧ W.cell? ⟨B, 4, none⟩ = some z4 ∧ W.cell? ⟨B, 5, none⟩ = some z5 ∧ W.cell? ⟨B, 6, none⟩ = some z6 ∧ W.cell? ⟨B, 7, none⟩ = some z7 := ⟨bx_cell h 0 _ rfl, bx_cell h 1 _ rfl, bx_cell h 2 _ rfl, bx_cell h 3 _ rfl, bx_cell h 4 _ rfl, bx_cell h 5 _ rfl, bx_cell h 6 _ rfl, bx_cell h 7 _ rfl⟩
theorem finCar {cur W : World} {B lo hi : Nat} {f : Value} {mr : Cm} {o og : Option Addr} {c cg : Nat} {z0 z1 z2 z3 z4 z5 z6 z7 : Value} (hZ : W.heap[B]? = some (.cells #[z0, z1, z2, z3, z4, z5, z6, z7] 76 (0, 0))) (hx : Below cur.heap.size cur W) (hB : cur.heap.size ≤ B) (hi' : InCm lo hi W (crr mr.a mr.b mr.f mr.s (.slice o mr.l.length c) (.slice og mr.g.length cg) mr.pl mr.st) mr) (h1 : cur.heap.size ≤ lo) (h2 : hi ≤ W.heap.size) (h3 : B < lo ∨ hi ≤ B) :
  ∃ B' lo hi o' c' og' cg', Value.pointer (some ⟨B, 0, none⟩) = .pointer (some ⟨B', 0, none⟩) ∧ f = f ∧ Hid ((set8 W B (.int .i64 mr.a) (.int .i64 mr.b) (.int .i64 mr.f) (.int .i64 mr.s) (.slice o mr.l.length c) (.slice og mr.g.length cg) (.int .i64 mr.pl) (.int .i64 mr.st)).heap[B']? = some (.cells #[.int .i64 mr.a, .int .i64 mr.b, .int .i64 mr.f, .int .i64 mr.s, .slice o' mr.l.length c', .slice og' mr.g.length cg', .int .i64 mr.pl, .int .i64 mr.st] 76 (0, 0))) ∧ Hid (Below cur.heap.size cur (set8 W B (.int .i64 mr.a) (.int .i64 mr.b) (.int .i64 mr.f) (.int .i64 mr.s) (.slice o mr.l.length c) (.slice og mr.g.length cg) (.int .i64 mr.pl) (.int .i64 mr.st))) ∧ cur.heap.size ≤ B' ∧ B' < (set8 W B (.int .i64 mr.a) (.int .i64 mr.b) (.int .i64 mr.f) (.int .i64 mr.s) (.slice o mr.l.length c) (.slice og mr.g.length cg) (.int .i64 mr.pl) (.int .i64 mr.st)).heap.size ∧ Hid (InCm lo hi (set8 W B (.int .i64 mr.a) (.int .i64 mr.b) (.int .i64 mr.f) (.int .i64 mr.s) (.slice o mr.l.length c) (.slice og mr.g.length cg) (.int .i64 mr.pl) (.int .i64 mr.st)) (crr mr.a mr.b mr.f mr.s (.slice o' mr.l.length c') (.slice og' mr.g.length cg') mr.pl mr.st) mr) ∧ cur.heap.size ≤ lo ∧ hi ≤ (set8 W B (.int .i64 mr.a) (.int .i64 mr.b) (.int .i64 mr.f) (.int .i64 mr.s) (.slice o mr.l.length c) (.slice og mr.g.length cg) (.int .i64 mr.pl) (.int .i64 mr.st)).heap.size ∧ (B' < lo ∨ hi ≤ B') := by
 have b8 := set8_box hZ (.int .i64 mr.a) (.int .i64 mr.b) (.int .i64 mr.f) (.int .i64 mr.s) (.slice o mr.l.length c) (.slice og mr.g.length cg) (.int .i64 mr.pl) (.int .i64 mr.st)
 exact ⟨B, lo, hi, o, c, og, cg, rfl, rfl, b8, set8_below hx hB _ _ _ _ _ _ _ _, hB, (Array.getElem?_eq_some_iff.1 b8).1, hi'.step (stp_set8 W B _ _ _ _ _ _ _ _) (by omega), h1, by rw [set8_size]; exact h2, h3⟩
theorem finCarn {cur W : World} {lo hi : Nat} {f : Value} {mr : Cm} {o og : Option Addr} {c cg : Nat} (hx : Below cur.heap.size cur W) (hi' : InCm lo hi W (crr mr.a mr.b mr.f mr.s (.slice o mr.l.length c) (.slice og mr.g.length cg) mr.pl mr.st) mr) (h1 : cur.heap.size ≤ lo) (h2 : hi ≤ W.heap.size) :
  ∃ B' lo hi o' c' og' cg', Value.pointer (some ⟨W.heap.size, 0, none⟩) = .pointer (some ⟨B', 0, none⟩) ∧ f = f ∧ Hid ((W.alloc (.cells #[.int .i64 mr.a, .int .i64 mr.b, .int .i64 mr.f, .int .i64 mr.s, .slice o mr.l.length c, .slice og mr.g.length cg, .int .i64 mr.pl, .int .i64 mr.st] 76)).heap[B']? = some (.cells #[.int .i64 mr.a, .int .i64 mr.b, .int .i64 mr.f, .int .i64 mr.s, .slice o' mr.l.length c', .slice og' mr.g.length cg', .int .i64 mr.pl, .int .i64 mr.st] 76 (0, 0))) ∧ Hid (Below cur.heap.size cur (W.alloc (.cells #[.int .i64 mr.a, .int .i64 mr.b, .int .i64 mr.f, .int .i64 mr.s, .slice o mr.l.length c, .slice og mr.g.length cg, .int .i64 mr.pl, .int .i64 mr.st] 76))) ∧ cur.heap.size ≤ B' ∧ B' < (W.alloc (.cells #[.int .i64 mr.a, .int .i64 mr.b, .int .i64 mr.f, .int .i64 mr.s, .slice o mr.l.length c, .slice og mr.g.length cg, .int .i64 mr.pl, .int .i64 mr.st] 76)).heap.size ∧ Hid (InCm lo hi (W.alloc (.cells #[.int .i64 mr.a, .int .i64 mr.b, .int .i64 mr.f, .int .i64 mr.s, .slice o mr.l.length c, .slice og mr.g.length cg, .int .i64 mr.pl, .int .i64 mr.st] 76)) (crr mr.a mr.b mr.f mr.s (.slice o' mr.l.length c') (.slice og' mr.g.length cg') mr.pl mr.st) mr) ∧ cur.heap.size ≤ lo ∧ hi ≤ (W.alloc (.cells #[.int .i64 mr.a, .int .i64 mr.b, .int .i64 mr.f, .int .i64 mr.s, .slice o mr.l.length c, .slice og mr.g.length cg, .int .i64 mr.pl, .int .i64 mr.st] 76)).heap.size ∧ (B' < lo ∨ hi ≤ B') :=
 ⟨W.heap.size, lo, hi, o, c, og, cg, rfl, rfl, World.alloc_heap_new W _, hx.alloc hx.size _, hx.size, by simp, hi'.step (Stp.of (lo := 0) (hi := 0) ((Below.refl _ _).alloc (Nat.le_refl _) _)) (.inl (Nat.zero_le _)), h1, by simp; omega, .inr h2⟩

end Go.Proofs.YtajfkcpifnpkeaaGreat

/- A balancer that came in. -/
namespace Go.Proofs.YtajfkcpifnpkeaaGreat
open Go.ChangeShapes Go.WideShapes Go.ChangeAt Go.RowKit Go.Joins
set_option linter.unusedVariables false
set_option linter.unusedSimpArgs false


theorem cellsLawsBal : Tryz.prog.cellsOf 33 = 7 := by kernel_rfl
theorem cellsIntB : Tryz.prog.cellsOf 3 = 1 := by kernel_rfl
theorem cellsLawsBackSB : Tryz.prog.cellsOf 25 = 1 := by kernel_rfl
theorem cellsIntSSSB : Tryz.prog.cellsOf 26 = 1 := by kernel_rfl
theorem array7 {α : Type} {cs : Array α} (h : cs.size = 7) : ∃ c0 c1 c2 c3 c4 c5 c6, cs = #[c0, c1, c2, c3, c4, c5, c6] := by
 match cs, h with
 | ⟨[c0, c1, c2, c3, c4, c5, c6]⟩, _ => exact ⟨c0, c1, c2, c3, c4, c5, c6, rfl⟩
set_option maxRecDepth 100000 in
set_option maxHeartbeats 1000000 in
theorem open_bal {H : Type} {enc : TypeId × Value → H} {W : World} {base : Nat} {v : Value} {d : DataW H} {p : List MemPlace}
  (hv : Value.okWide Tryz.prog W .any base 33 v) (h : DataW.Trod enc Tryz.prog W 0 (fun _ => true) true 33 v d p) :
  ∃ m : Bm, RdBm W.heap.size W v m ∧ lenBm m := by
 obtain ⟨cs, rfl, hsz⟩ := okWide_struct Tryz.underlying33 hv
 obtain ⟨c0, c1, c2, c3, c4, c5, c6, rfl⟩ := array7 (hsz.trans cellsLawsBal)
 obtain ⟨fuel, hf⟩ := h
 obtain ⟨y0, y1, y2, n, _, _, h0, h1, h2⟩ := Go.Deep.trod_struct3 (cs := [c0, c1, c2, c3, c4, c5, c6]) Tryz.underlying33 (by simpa [Value.cells] using hf)
 simp [cellsLawsJ, cellsLawsPool, cellsLawsT] at h0 h1 h2
 obtain ⟨z0, z1, z2, n0, _, _, q0, q1, q2⟩ := Go.Deep.trod_struct3 Tryz.underlying24 h0
 simp [cellsIntB, cellsLawsCmdS] at q0 q1 q2
 obtain ⟨t0, t1, t2, n1, _, _, r0, r1, r2⟩ := Go.Deep.trod_struct3 Tryz.underlying28 h1
 simp [cellsIntB, cellsLawsBackSB, cellsIntSSSB] at r0 r1 r2
 obtain ⟨a, e0, _, _⟩ := DataW.trod_int Tryz.underlying3 q0
 obtain ⟨o, cap, l, e1, l1, rd1⟩ := open_cmds_cells q1
 obtain ⟨b, e2, _, _⟩ := DataW.trod_int Tryz.underlying3 q2
 obtain ⟨k, e3, _, _⟩ := DataW.trod_int Tryz.underlying3 r0
 obtain ⟨o2, cap2, l2, e4, ll2, rd2⟩ := open_backs_cells r1
 obtain ⟨oR, cR, ll, e5, l3, rr, l4, l5⟩ := open_rows3_cells r2
 obtain ⟨o6, cap6, l6, e6, ll6, rd6⟩ := open_table_cells rfl h2
 simp at e0 e1 e2 e3 e4 e5 e6
 subst e0 e1 e2 e3 e4 e5 e6
 exact ⟨⟨⟨a, l, b⟩, ⟨k, l2, ll⟩, l6⟩, ⟨_, _, _, _, rfl, ⟨_, rfl, _, _, rfl, rd1⟩, ⟨_, _, rfl, RiV.of rd2, rr⟩, ⟨_, rfl, _, _, rfl, rd6⟩⟩, ⟨l1, ⟨ll2, l3, l4, l5⟩, ll6⟩⟩

end Go.Proofs.YtajfkcpifnpkeaaGreat

