/- Several texts in one: SBacks2, IntsA, Ints, SMoved, PlaceMath, SCmd, LCmds, ShJ, SSame. -/
import Derived.Test.YtpneolgdghbinaaGreatQSends04
import Derived.Test.YtpneolgdghbinaaGreatQSends09
namespace Go.Proofs.YtpneolgdghbinaaGreat
open Go.ChangeShapes Go.WideShapes Go.ChangeAt Go.RowKit Go.Joins
set_option linter.unusedVariables false
set_option linter.unusedSimpArgs false
set_option maxRecDepth 100000
set_option maxHeartbeats 40000000
theorem Qf5 (i g:Int):Q3x i g=((decide (0≤i) && decide (i < 6)) && (decide (1≤g) && decide (g≤100))):=by simp [Q3x,Bool.and_assoc]
theorem Q3j (n:Int) (w:World):Calls Tryz.prog 61 #[.int .i64 n] w fun e w'=> e=.returned (.bool (decide (0≤n) && decide (n < 6)))∧w=w':=by
 go_enter Tryz.func61,Tryz.ntmps61
 go_wp2
 all_goals go_ret
 all_goals refine ⟨?_,rfl⟩
 all_goals first|(simp [*];done)|(simp;omega)
theorem Q62 (n:Int) (w:World):Calls Tryz.prog 122 #[.int .i64 n] w fun e w'=> e=.returned (.bool (decide (1≤n) && decide (n≤100)))∧w=w':=by
 go_enter Tryz.func122,Tryz.ntmps122
 go_wp2
 all_goals go_ret
 all_goals refine ⟨?_,rfl⟩
 all_goals first|(simp [*];done)|(simp;omega)
theorem Q22 (i g:Int) (d:Bool) (w:World):Calls Tryz.prog 186 #[back i g d] w fun e w'=> e=.returned (.bool (Q3x i g))∧Below w.heap.size w w':=by
 have hB:Below w.heap.size w w:=Below.refl _ _
 rw [Qf5]
 cases hi:(decide (0≤i) && decide (i < 6)) with
 |false=>
  go_enter Tryz.func186,Tryz.ntmps186
  go_wp2_with (first|(go_at_call 61;refine (Q3j i _).mono ?_;rw [hi];rintro e w1 ⟨rfl,rfl⟩))
  go_ret
  exact ⟨rfl,by (repeat (first|with_reducible (first|exact hB|exact Below.refl _ _|refine Below.drew ?_|refine below_drewN ?_ _|refine Below.alloc ?_ ?_ _|refine Below.setCell ?_ ?_ _)|(focus (simp;first|done|omega))|omega))⟩
 |true=>
  generalize hg:(decide (1≤g) && decide (g≤100))=r
  go_enter Tryz.func186,Tryz.ntmps186
  go_wp2_with (first|(go_at_call 61;refine (Q3j i _).mono ?_;rw [hi];rintro e w1 ⟨rfl,rfl⟩)|(go_at_call 122;refine (Q62 g _).mono ?_;rw [hg];rintro e w1 ⟨rfl,rfl⟩))
  go_ret
  exact ⟨rfl,by (repeat (first|with_reducible (first|exact hB|exact Below.refl _ _|refine Below.drew ?_|refine below_drewN ?_ _|refine Below.alloc ?_ ?_ _|refine Below.setCell ?_ ?_ _)|(focus (simp;first|done|omega))|omega))⟩
theorem Qi7 (w:World) (x y z:Value) (t:TypeId):(w.alloc (.cells #[x,y,z] t)).cell? ⟨w.heap.size,0,none⟩=some x∧(w.alloc (.cells #[x,y,z] t)).cell? ⟨w.heap.size,1,none⟩=some y∧(w.alloc (.cells #[x,y,z] t)).cell? ⟨w.heap.size,2,none⟩=some z:=by simp
theorem QcH (w:World) (o:Obj) {b off:Nat} {u:Value} (h:w.cell? ⟨b,off,none⟩=some u) (hb:b < w.heap.size):(w.alloc o).cell? ⟨b,off,none⟩=some u:=
 ((Below.alloc (Below.refl _ _) (Kaq _) o).cell (p:=⟨b,off,none⟩) hb).trans h
theorem Q2x (o:Option Addr) (cap:Nat) (l:List Bk) (w:World) (hR:RdK w.heap.size w o l) (hlen:l.length≤1048576):
  Calls Tryz.prog 175 #[.slice o l.length cap] w fun e w'=> e=.returned (.bool (Q0a l))∧Below w.heap.size w w':=by
 go_enter Tryz.func175,Tryz.ntmps175
 go_wp2
 go_loopw [2,7] (fun rv i wr=> ∃k:Nat,k≤l.length∧i=.int .i64 k∧rv=.bool false∧Qho l k∧Below w.heap.size w wr)
  (fun _ i _=> l.length - (intOf i).toNat)
 case atStart=> exact ⟨0,Kcq _,rfl,rfl,fun i hi=> absurd hi (Nat.not_lt_zero _),Below.refl _ _⟩
 case round=>
  obtain ⟨k,hk,rfl,rfl,hok,hBr⟩:=hrel
  by_cases hlt:k < l.length
  ·rcases hR with hR|⟨b,off,rfl,hbl,hcell⟩
   ·subst hR;simp at hlt
   obtain ⟨x,y,z,hxy⟩:∃x y z,l.getD k (0,0,false)=(x,y,z):=⟨_,_,_,rfl⟩;have hcx:=RdL.back (C:=w.heap.size) hcell k hlt
   rw [hxy] at hcx
   have hc0:wr.cell? ⟨b,off+k * 3,none⟩=some (.int .i64 x):=(hBr.cell (p:=⟨b,off+k * 3,none⟩) hbl).trans hcx.1;have hc1:wr.cell? ⟨b,off+k * 3+1,none⟩=some (.int .i64 y):=(hBr.cell (p:=⟨b,off+k * 3+1,none⟩) hbl).trans hcx.2.1;have hc2:wr.cell? ⟨b,off+k * 3+2,none⟩=some (.bool z):=(hBr.cell (p:=⟨b,off+k * 3+2,none⟩) hbl).trans hcx.2.2;have hlr:=Kbq hbl hBr.size;have HB:=Q02 hBr;have HO:=Q02 hok
   have i1:(k:Int) < (l.length:Int):=by omega
   clear hBr hok hcx;obtain ⟨p0,p1,p2⟩:=Qi7 wr (.int .i64 x) (.int .i64 y) (.bool z) 119;have HA:Hid (Below w.heap.size w (wr.alloc (Obj.cells #[Value.int IntKind.i64 x,Value.int IntKind.i64 y,Value.bool z] 119))):=HB.out.alloc HB.out.size _
   have hs:wr.heap.size < (wr.alloc (Obj.cells #[Value.int IntKind.i64 x,Value.int IntKind.i64 y,Value.bool z] 119)).heap.size:=by simp
   rcases k with _|j
   ·have HZ:=Q02 (Qd3 hxy)
    clear hcell hxy
    simp only [Nat.zero_mul,Nat.add_zero] at hc0 hc1 hc2
    go_wp2
    generalize wr.alloc (Obj.cells #[Value.int IntKind.i64 x,Value.int IntKind.i64 y,Value.bool z] 119)=w0 at *;have g0:=Grown.cell p0 hs;have g1:=Grown.cell p1 hs;have g2:=Grown.cell p2 hs;clear hc0 hc1 hc2 p0 p1 p2
    cases hbk:Q3x x y with
    |false=>
     have HN:=Q02 (Q4A hlt (HZ.out.trans hbk));clear HZ HO
     (refine Q0v (by kernel_rfl) (by kernel_rfl) ?_;intro hne9;(repeat (go_big_quiet_step ((go_at_call 186;exact Q4S _ (hbk ▸ Q22 x y z _)))));(with_reducible refine wpQuiet_nil ?_);intro _ hw9;obtain ⟨pq,hw8⟩:=hw9;subst hw8)
     go_wp2
     go_ret
     exact ⟨Q0c HN.out,HA.out.trans (pq.b.mono HA.out.size)⟩
    |true=>
     have HY:=Q02 (Q9y HO.out (HZ.out.trans hbk));clear HZ HO
     (refine Q0v (by kernel_rfl) (by kernel_rfl) ?_;intro hne9;(repeat (go_big_quiet_step ((go_at_call 186;exact Q4S _ (hbk ▸ Q22 x y z _)))));(with_reducible refine wpQuiet_nil ?_);intro _ hw9;obtain ⟨pq,hw8⟩:=hw9;subst hw8)
     go_wp2
     go_roundw
     case rel=> exact ⟨1,by omega,by go_num,rfl,HY.out,HA.out.trans (pq.b.mono HA.out.size)⟩
     case measure=> simp [intOf];omega
   ·obtain ⟨x',y',z',hxy'⟩:∃x y z,l.getD j (0,0,false)=(x,y,z):=⟨_,_,_,rfl⟩
    have hcx:=RdL.back (C:=w.heap.size) hcell j (by omega)
    rw [hxy'] at hcx
    have hc3:wr.cell? ⟨b,off+j * 3,none⟩=some (.int .i64 x'):=(HB.out.cell (p:=⟨b,off+j * 3,none⟩) hbl).trans hcx.1;have p3:=QcH wr (Obj.cells #[Value.int IntKind.i64 x,Value.int IntKind.i64 y,Value.bool z] 119) hc3 hlr;have HZ:=Q02 (QcM hxy hxy')
    have i2:(j:Int) < (l.length:Int):=by omega
    have i3:0 < (j:Int)+1:=by omega
    clear hcell hxy hxy' hcx hc3;have hls:b < (wr.alloc (Obj.cells #[Value.int IntKind.i64 x,Value.int IntKind.i64 y,Value.bool z] 119)).heap.size:=Nat.lt_trans hlr hs
    go_wp2
    generalize wr.alloc (Obj.cells #[Value.int IntKind.i64 x,Value.int IntKind.i64 y,Value.bool z] 119)=w0 at *;have g0:=Grown.cell p0 hs;have g1:=Grown.cell p1 hs;have g2:=Grown.cell p2 hs;have g3:=Grown.cell p3 hls;clear hc0 hc1 hc2 p0 p1 p2 p3
    cases hbk:Q3x x y with
    |false=>
     have HN:=Q02 (Q4A hlt (HZ.out.trans (by rw [hbk];rfl)))
     clear HZ HO
     (refine Q0v (by kernel_rfl) (by kernel_rfl) ?_;intro hne9;(repeat (go_big_quiet_step ((go_at_call 186;exact Q4S _ (hbk ▸ Q22 x y z _)))));(with_reducible refine wpQuiet_nil ?_);intro _ hw9;obtain ⟨pq,hw8⟩:=hw9;subst hw8)
     go_wp2
     go_ret
     exact ⟨Q0c HN.out,HA.out.trans (pq.b.mono HA.out.size)⟩
    |true=>
     by_cases h5:x≤x'
     ·have HN:=Q02 (Q4A hlt (HZ.out.trans (by simp [hbk];omega)))
      clear HZ HO
      (refine Q0v (by kernel_rfl) (by kernel_rfl) ?_;intro hne9;(repeat (go_big_quiet_step ((go_at_call 186;exact Q4S _ (hbk ▸ Q22 x y z _)))));(with_reducible refine wpQuiet_nil ?_);intro _ hw9;obtain ⟨pq,hw8⟩:=hw9;subst hw8)
      go_wp2
      go_ret
      exact ⟨Q0c HN.out,HA.out.trans (pq.b.mono HA.out.size)⟩
     ·have d5:decide (x≤x')=false:=decide_eq_false h5
      have HY:=Q02 (Q9y HO.out (HZ.out.trans (by simp [hbk];omega)))
      clear HZ HO
      (refine Q0v (by kernel_rfl) (by kernel_rfl) ?_;intro hne9;(repeat (go_big_quiet_step ((go_at_call 186;exact Q4S _ (hbk ▸ Q22 x y z _)))));(with_reducible refine wpQuiet_nil ?_);intro _ hw9;obtain ⟨pq,hw8⟩:=hw9;subst hw8)
      go_wp2
      go_roundw
      case rel=> exact ⟨j+1+1,by omega,by go_num,rfl,HY.out,HA.out.trans (pq.b.mono HA.out.size)⟩
      case measure=> simp [intOf];omega
  ·have e:k=l.length:=by omega
   subst e;have HE:=Q02 (Q1k.2 hok).symm
   go_wp2
   go_ret
   exact ⟨Q0c HE.out,hBr⟩
def Q2e:Lay Int:=⟨1,fun a=> [.int .i64 a],0,fun _=> rfl⟩
abbrev RdI:=RdL Q2e
abbrev Q9u:=ownL Q2e 3
theorem RdL.int {w:World} {b off:Nat} {l:List Int} (h:∀i,i < l.length→∀j,j < Q2e.k→w.cell? ⟨b,off+i * Q2e.k+j,none⟩=(Q2e.cs (l.getD i Q2e.d))[j]?) (i:Nat) (hi:i < l.length):
  w.cell? ⟨b,off+i,none⟩=some (.int .i64 (l.getD i 0)):=by
 have:=h i hi 0 (by decide)
 rw [show Q2e.k=1 from rfl,Nat.mul_one,Nat.add_zero] at this
 exact this
theorem QaN:(Tryz.prog.info? 3).map (fun i=> (i.zero,i.size,i.bytes))=some (some (.int .i64 0),1,8):=by kernel_rfl
abbrev Hd:=Option Addr × Nat × Nat
def Q0C:Lay Hd:=⟨1,fun a=> [.slice a.1 a.2.1 a.2.2],(none,0,0),fun _=> rfl⟩
theorem RdL.head {w:World} {b off:Nat} {l:List Hd} (h:∀i,i < l.length→∀j,j < Q0C.k→w.cell? ⟨b,off+i * Q0C.k+j,none⟩=(Q0C.cs (l.getD i Q0C.d))[j]?) (i:Nat) (hi:i < l.length):
  w.cell? ⟨b,off+i,none⟩=some (.slice (l.getD i (none,0,0)).1 (l.getD i (none,0,0)).2.1 (l.getD i (none,0,0)).2.2):=by
 have:=h i hi 0 (by decide)
 rw [show Q0C.k=1 from rfl,Nat.mul_one,Nat.add_zero] at this
 exact this
def RdLo {α:Type} (L:Lay α) (lo C:Nat) (w:World) (o:Option Addr) (l:List α):Prop:=
 l=[]∨∃b off,o=some ⟨b,off,none⟩∧lo≤b∧b < C∧∀i,i < l.length→∀j,j < L.k→w.cell? ⟨b,off+i * L.k+j,none⟩=(L.cs (l.getD i L.d))[j]?
theorem RdLo.rd {α:Type} {L:Lay α} {lo C:Nat} {w:World} {o:Option Addr} {l:List α} (h:RdLo L lo C w o l):RdL L C w o l:=by
 rcases h with h|⟨b,off,ho,_,hb,r⟩
 ·exact .inl h
 ·exact .inr ⟨b,off,ho,hb,r⟩
def RdLL (C:Nat) (w:World) (o:Option Addr) (ll:List (List Int)):Prop:=
 ∃hs:List Hd,hs.length=ll.length∧RdL Q0C C w o hs∧∀i,i < ll.length→(hs.getD i (none,0,0)).2.1=(ll.getD i []).length∧RdI C w (hs.getD i (none,0,0)).1 (ll.getD i [])
theorem RdLL.kept {C D:Nat} {w w':World} {o:Option Addr} {ll:List (List Int)} (h:RdLL C w o ll) (hb:Below D w w') (hc:C≤D):RdLL C w' o ll:=by
 obtain ⟨hs,hl,hr,hx⟩:=h
 exact ⟨hs,hl,hr.kept hb hc,fun i hi=> ⟨(hx i hi).1,(hx i hi).2.kept hb hc⟩⟩
theorem RdLL.le {C D:Nat} {w:World} {o:Option Addr} {ll:List (List Int)} (h:RdLL C w o ll) (hc:C≤D):RdLL D w o ll:=by
 obtain ⟨hs,hl,hr,hx⟩:=h
 exact ⟨hs,hl,hr.le hc,fun i hi=> ⟨(hx i hi).1,(hx i hi).2.le hc⟩⟩
theorem RdLL.at {C:Nat} {w:World} {o:Option Addr} {ll:List (List Int)} (h:RdLL C w o ll) (hC:C≤w.heap.size) (i:Nat) (hi:i < ll.length):
  ∃b off o' c',o=some ⟨b,off,none⟩∧b < w.heap.size∧w.cell? ⟨b,off+i,none⟩=some (.slice o' (ll.getD i []).length c')∧RdI w.heap.size w o' (ll.getD i []):=by
 obtain ⟨hs,hl,hr,hx⟩:=h
 rcases hr with hr|⟨b,off,ho,hb,r⟩
 ·subst hr;simp at hl;omega
 ·have:=RdL.head r i (by omega)
  rw [(hx i hi).1] at this
  exact ⟨b,off,_,_,ho,Kbq hb hC,this,(hx i hi).2.le hC⟩
theorem Q6m:(Tryz.prog.info? 47).map (fun i=> (i.zero,i.size,i.bytes))=some (some (.slice none 0 0),1,24):=by kernel_rfl
def Q0U (aa bb:List (List Int)):Nat→Int
 |0=> 0
 |k+1=> Q0U aa bb k+(if aa.getD k []=bb.getD k [] then 0 else 1)
theorem Q5H (aa bb:List (List Int)):∀k,0≤Q0U aa bb k∧Q0U aa bb k≤k
 |0=> ⟨Int.le_refl _,Int.le_refl _⟩
 |k+1=> by have:=Q5H aa bb k;unfold Q0U;split <;> omega
def Q1s (aa bb:List (List Int)):Int:=if aa.length=8∧bb.length=8 then Q0U aa bb 8 else -1
theorem QdA {aa bb:List (List Int)} (h:¬(aa.length=8∧bb.length=8)): -1=Q1s aa bb:=by rw [Q1s,if_neg h]
theorem Q3Y {aa bb:List (List Int)} {k:Nat} {ra rb:List Int} (h1:aa.getD k []=ra) (h2:bb.getD k []=rb) (h:ra=rb):Q0U aa bb k=Q0U aa bb (k+1):=by
 unfold Q0U;rw [h1,h2,if_pos h];cases k <;> simp [Q0U]
theorem Q60 {aa bb:List (List Int)} {k:Nat} {ra rb:List Int} (h1:aa.getD k []=ra) (h2:bb.getD k []=rb) (h:ra≠rb):Q0U aa bb k+1=Q0U aa bb (k+1):=by
 rw [show Q0U aa bb (k+1)=Q0U aa bb k+(if aa.getD k []=bb.getD k [] then 0 else 1) from rfl,h1,h2,if_neg h]
theorem Q6O (o1 o2:Option Addr) (c1 c2:Nat) (l1 l2:List Int) (w:World) (h1:RdI w.heap.size w o1 l1) (h2:RdI w.heap.size w o2 l2) (hl1:l1.length≤1048576) (hl2:l2.length≤1048576):
  Calls Tryz.prog 185 #[.slice o1 l1.length c1,.slice o2 l2.length c2] w fun e w'=> e=.returned (.bool (decide (l1=l2)))∧Below w.heap.size w w':=by
 by_cases hlen:l1.length=l2.length
 ·have hne:((l1.length:Int) !=(l2.length:Int))=false:=by simp [hlen]
  have HL:=Q02 hlen
  have hle:l1.length≤l2.length:=by omega
  have hge:l2.length≤l1.length:=by omega
  clear hlen
  go_enter Tryz.func185,Tryz.ntmps185
  go_wp2
  go_loopw [4,13] (fun rv i wr=> ∃k:Nat,k≤l1.length∧i=.int .i64 k∧rv=.bool false∧l1.take k=l2.take k∧Below w.heap.size w wr)
   (fun _ i _=> l1.length - (intOf i).toNat)
  case atStart=> exact ⟨0,Kcq _,rfl,rfl,rfl,Below.refl _ _⟩
  case round=>
   obtain ⟨k,hk,rfl,rfl,htk,hBr⟩:=hrel;have HT:=Q02 htk
   by_cases hlt:k < l1.length
   ·rcases h1 with h1|⟨b1,off1,rfl,hb1,hcell1⟩
    ·subst h1;simp at hlt
    rcases h2 with h2|⟨b2,off2,rfl,hb2,hcell2⟩
    ·subst h2;simp at hle;simp [hle] at hlt
    have hlt2:k < l2.length:=by omega
    have hc1:wr.cell? ⟨b1,off1+k,none⟩=some (.int .i64 (l1.getD k 0)):=(hBr.cell (p:=⟨b1,off1+k,none⟩) hb1).trans (RdL.int hcell1 k hlt);have hc2:wr.cell? ⟨b2,off2+k,none⟩=some (.int .i64 (l2.getD k 0)):=(hBr.cell (p:=⟨b2,off2+k,none⟩) hb2).trans (RdL.int hcell2 k hlt2);have HB:=Q02 hBr;have t1:=Q02 (Q4p l1 k hlt);have t2:=Q02 (Q4p l2 k hlt2)
    have N12:Hid (l1=l2→l1.getD k 0=l2.getD k 0):=fun h=> by rw [h]
    clear hcell1 hcell2
    have i1:(k:Int) < (l1.length:Int):=by omega
    have i2:(k:Int) < (l2.length:Int):=by omega
    generalize l1.getD k 0=x at *;generalize l2.getD k 0=y at *;clear htk hBr
    by_cases hxy:x=y
    ·have hb:(x !=y)=false:=by simp [hxy]
     have HX:=Q02 hxy;clear hxy N12
     go_wp2
     go_quiet (fail)
     go_wp2
     go_roundw
     case rel=>
      refine ⟨k+1,by omega,by go_num,rfl, ?_, ?_⟩
      ·rw [t1.out,t2.out,HT.out,HX.out]
      ·exact below_drewN HB.out _
     case measure=> simp [intOf];omega
    ·have hb:(x !=y)=true:=by simp [hxy]
     have HX:Hid (l1≠l2):=fun h=> hxy (N12.out h)
     clear hxy N12 t1 t2
     go_wp2
     go_quiet (fail)
     go_wp2
     go_ret
     exact ⟨Q0c (decide_eq_false HX.out).symm,below_drewN HB.out _⟩
   ·have e:l1=l2:=by
     have:=htk;rw [List.take_of_length_le (by omega),List.take_of_length_le (by omega)] at this;exact this
    have HE:=Q02 e;have HB:=Q02 hBr;clear e htk hBr
    go_wp2
    go_ret
    exact ⟨Q0c (decide_eq_true HE.out).symm,HB.out⟩
 ·have hne:((l1.length:Int) !=(l2.length:Int))=true:=by simp;omega
  have HE:Hid (l1≠l2):=fun h=> hlen (by rw [h])
  go_enter Tryz.func185,Tryz.ntmps185
  go_wp2
  go_ret
  exact ⟨Q0c (decide_eq_false HE.out).symm,Below.refl _ _⟩
theorem Q8v (oa ob:Option Addr) (ca cb:Nat) (aa bb:List (List Int)) (w:World) (hA:RdLL w.heap.size w oa aa) (hB:RdLL w.heap.size w ob bb) (la:aa.length≤1048576) (lb:bb.length≤1048576)
  (xa:∀i,i < aa.length→(aa.getD i []).length≤1048576) (xb:∀i,i < bb.length→(bb.getD i []).length≤1048576):
  Calls Tryz.prog 173 #[.slice oa aa.length ca,.slice ob bb.length cb] w fun e w'=> e=.returned (.int .i64 (Q1s aa bb))∧Below w.heap.size w w':=by
 by_cases h8:aa.length=8∧bb.length=8
 ·have HE:=Q02 (show Q0U aa bb 8=Q1s aa bb by rw [Q1s,if_pos h8])
  obtain ⟨e1,e2⟩:=h8;have HE1:=Q02 e1;have HE2:=Q02 e2
  go_enter Tryz.func173,Tryz.ntmps173
  go_wp2
  clear e1 e2
  go_loopw [5,18] (fun n i wr=> ∃k:Nat,k≤8∧i=.int .i64 k∧n=.int .i64 (Q0U aa bb k)∧Below w.heap.size w wr)
   (fun _ i _=> 8 - (intOf i).toNat)
  case atStart=> exact ⟨0,Kcq _,rfl,rfl,Below.refl _ _⟩
  case round=>
   obtain ⟨k,hk,rfl,rfl,hBr⟩:=hrel;have hbd:=Q5H aa bb k
   by_cases hlt:k < 8
   ·have i1:k < aa.length:=by rw [HE1.out];exact hlt
    have i2:k < bb.length:=by rw [HE2.out];exact hlt
    have j1:(k:Int) < (aa.length:Int):=by omega
    have j2:(k:Int) < (bb.length:Int):=by omega
    obtain ⟨b1,off1,o1',c1',rfl,hb1,hc1,hr1⟩:=hA.at (Kaq _) k i1;obtain ⟨b2,off2,o2',c2',rfl,hb2,hc2,hr2⟩:=hB.at (Kaq _) k i2;have hxa:=xa k i1;have hxb:=xb k i2;have hc1r:=(hBr.cell (p:=⟨b1,off1+k,none⟩) hb1).trans hc1;have hc2r:=(hBr.cell (p:=⟨b2,off2+k,none⟩) hb2).trans hc2;replace hr1:=(hr1.kept hBr (Kaq _)).le hBr.size;replace hr2:=(hr2.kept hBr (Kaq _)).le hBr.size;have HB:=Q02 hBr;clear hc1 hc2 xa xb hA hB hBr;generalize hra:aa.getD k []=ra at *;generalize hrb:bb.getD k []=rb at *;have hq:=Q6O o1' o2' c1' c2' ra rb wr hr1 hr2 hxa hxb;clear hr1 hr2
    by_cases hab:ra=rb
    ·have HM:=Q02 (Q3Y hra hrb hab)
     rw [decide_eq_true hab] at hq
     clear hra hrb hab
     go_wp2_with fail
     refine hq.mono ?_
     rintro e w2 ⟨rfl,hb2'⟩
     go_wp2
     go_roundw
     case rel=> exact ⟨k+1,by omega,by go_num,by rw [HM.out],HB.out.trans (hb2'.mono HB.out.size)⟩
     case measure=> simp [intOf];omega
    ·have HM:=Q02 (Q60 hra hrb hab)
     rw [decide_eq_false hab] at hq
     clear hra hrb hab
     go_wp2_with fail
     refine hq.mono ?_
     rintro e w2 ⟨rfl,hb2'⟩
     go_wp2
     go_roundw
     case rel=> exact ⟨k+1,by omega,by go_num,by rw [←HM.out],HB.out.trans (hb2'.mono HB.out.size)⟩
     case measure=> simp [intOf];omega
   ·have e:k=8:=by omega
    subst e
    go_wp2
    go_ret
    exact ⟨Q0J HE.out,hBr⟩
 ·have HN:=Q02 (QdA h8)
  by_cases h1:aa.length=8
  ·have h2:¬bb.length=8:=fun h=> h8 ⟨h1,h⟩
   have n2:((bb.length:Int) !=8)=true:=by simp;omega
   go_enter Tryz.func173,Tryz.ntmps173
   go_wp2
   go_ret
   exact ⟨Q0J HN.out,Below.refl _ _⟩
  ·have n1:((aa.length:Int) !=8)=true:=by simp;omega
   go_enter Tryz.func173,Tryz.ntmps173
   go_wp2
   go_ret
   exact ⟨Q0J HN.out,Below.refl _ _⟩
def Q0d (l:List Bk) (id:Int):Nat:=(l.takeWhile (fun b=> decide (b.1 < id))).length
theorem Q3U (l:List Bk) (id:Int):Q0d l id≤l.length:=by
 unfold Q0d;exact (List.takeWhile_sublist _).length_le
theorem Q7j:∀(l:List Bk) (id:Int) (k:Nat),k < Q0d l id→(l.getD k (0,0,false)).1 < id
 |[],id,k,h=> by simp [Q0d] at h
 |b::l,id,k,h=> by
  unfold Q0d at h
  rw [List.takeWhile_cons] at h
  by_cases hb:b.1 < id
  ·simp [hb] at h
   cases k with
   |zero=> simpa using hb
   |succ k=> simpa using Q7j l id k (by unfold Q0d;omega)
  ·simp [hb] at h
theorem Q72:∀(l:List Bk) (id:Int),Q0d l id < l.length→¬(l.getD (Q0d l id) (0,0,false)).1 < id
 |[],id,h=> by simp at h
 |b::l,id,h=> by
  by_cases hb:b.1 < id
  ·have e:Q0d (b::l) id=Q0d l id+1:=by unfold Q0d;rw [List.takeWhile_cons];simp [hb]
   rw [e] at h ⊢
   simpa using Q72 l id (by simpa using h)
  ·have e:Q0d (b::l) id=0:=by unfold Q0d;rw [List.takeWhile_cons];simp [hb]
   rw [e]
   simpa using hb
theorem Q76 {l:List Bk} {id:Int} {k:Nat} (hk:k≤l.length) (h1:∀j,j < k→(l.getD j (0,0,false)).1 < id) (h2:k=l.length∨¬(l.getD k (0,0,false)).1 < id):Q0d l id=k:=by
 rcases Nat.lt_trichotomy (Q0d l id) k with h|h|h
 ·exact absurd (h1 _ h) (Q72 l id (by omega))
 ·exact h
 ·have:=Q7j l id k h
  have:=Q3U l id
  rcases h2 with h2|h2
  ·omega
  ·exact absurd ‹_› h2
def Q0x (l:List Bk) (id:Int):Bool:=decide (Q0d l id < l.length) && ((l.getD (Q0d l id) (0,0,false)).1==id)
def doL (l:List Bk) (k i g:Int):Option (List Bk):=
 if Q0x l i=(k==0) then none
 else some (
  if k=0 then l.take (Q0d l i)++(i,g,false)::l.drop (Q0d l i)
  else if k=1 then l.set (Q0d l i) (i,g,(l.getD (Q0d l i) (0,0,false)).2.2)
  else if k=2 then l.set (Q0d l i) (i,(l.getD (Q0d l i) (0,0,false)).2.1,true)
  else l.take (Q0d l i)++l.drop (Q0d l i+1))
theorem Q3B (o:Option Addr) (cap:Nat) (l:List Bk) (id:Int) (w:World) (hR:RdK w.heap.size w o l) (hl:l.length≤1048576):
  Calls Tryz.prog 159 #[.slice o l.length cap,.int .i64 id] w fun e w'=> e=.returned (.tuple #[.int .i64 (Q0d l id),.bool (Q0x l id)])∧Below w.heap.size w w':=by
 go_enter Tryz.func159,Tryz.ntmps159
 go_wp2
 go_loop [6] (fun av=> ∃k:Nat,k≤l.length∧av=.int .i64 k∧Hid (∀j,j < k→(l.getD j (0,0,false)).1 < id))
  (fun av=> l.length - (intOf av).toNat)
 case atStart=> exact ⟨0,Kcq _,rfl,fun j hj=> absurd hj (Nat.not_lt_zero _)⟩
 case round=>
  obtain ⟨k,hk,rfl,HJ⟩:=hrel
  by_cases hlt:k < l.length
  ·rcases hR with hR|⟨b,off,rfl,hbl,hcell⟩
   ·subst hR;simp at hlt
   obtain ⟨x,y,z,hxy⟩:∃x y z,l.getD k (0,0,false)=(x,y,z):=⟨_,_,_,rfl⟩;have hcx:=(RdL.back (C:=w.heap.size) hcell k hlt).1
   rw [hxy] at hcx
   dsimp only at hcx
   have z1:(k:Int) < (l.length:Int):=by omega
   by_cases hx:x < id
   ·have HJ2:Hid (∀j,j < k+1→(l.getD j (0,0,false)).1 < id):=fun j hj=> by
     rcases Nat.lt_succ_iff_lt_or_eq.1 hj with h|h
     ·exact HJ.out j h
     ·rw [h,hxy];exact hx
    clear hxy hcell
    go_wp2
    go_round
    case rel=> exact ⟨k+1,by omega,by go_num,HJ2⟩
    case measure=> simp [intOf];omega
   ·have hp:Q0d l id=k:=Q76 (Nat.le_of_lt hlt) HJ.out (.inr (by rw [hxy];exact hx))
    have HT:=Q02 (show Q0x l id=(x==id) by unfold Q0x;rw [hp,hxy];simp [hlt])
    have HP:=Q02 hp;have G0:=Grown.cell hcx hbl;clear hxy hcell hp HJ
    go_wp2
    (refine Q0v (by kernel_rfl) (by kernel_rfl) ?_;intro hne9;(repeat (go_big_quiet_step ((fail))));(with_reducible refine wpQuiet_nil ?_);intro _ hw9;obtain ⟨pq,hw8⟩:=hw9;subst hw8)
    have HB:=Q02 pq.b
    go_wp2
    go_ret2
    exact ⟨by rw [HP.out,HT.out];rfl,HB.out⟩
  ·have e:k=l.length:=by omega
   have hp:Q0d l id=l.length:=Q76 (Kaq _) (e ▸ HJ.out) (.inl rfl)
   have HT:=Q02 (show Q0x l id=false by unfold Q0x;rw [hp];simp)
   have HP:=Q02 hp;subst e;clear hp HJ
   go_wp2
   (refine Q0v (by kernel_rfl) (by kernel_rfl) ?_;intro hne9;(repeat (go_big_quiet_step ((fail))));(with_reducible refine wpQuiet_nil ?_);intro _ hw9;obtain ⟨pq,hw8⟩:=hw9;subst hw8)
   have HB:=Q02 pq.b
   go_wp2
   go_ret2
   exact ⟨by rw [HP.out,HT.out];rfl,HB.out⟩
def QdF (k i g:Int):Prop:=0≤k∧k≤3∧0≤i∧i < 6∧((k≤1∧1≤g∧g≤100)∨(2≤k∧g=0))
def Q0E (k i g:Int):Bool:=decide (0≤k) && decide (k≤3) && decide (0≤i) && decide (i < 6) && ((decide (k≤1) && decide (1≤g) && decide (g≤100))||(decide (2≤k) && decide (g=0)))
theorem Q7O {k i g:Int}:Q0E k i g=true↔QdF k i g:=by simp [Q0E,QdF,and_assoc]
abbrev cmd (k i g:Int):Value:=.agg #[.int .i64 k,.int .i64 i,.int .i64 g]
theorem Qch {k i g:Int} {t:Bool} (h:t=true↔QdF k i g):t=Q0E k i g:=by
 rw [Bool.eq_iff_iff,h,Q7O]
theorem Q3n (k i g:Int) (w:World):
  Calls Tryz.prog 73 #[cmd k i g] w fun e w'=> e=.returned (.bool (Q0E k i g))∧Below w.heap.size w w':=by
 have hB:Below w.heap.size w w:=Below.refl _ _
 have hb:=fun w=> Q3j i w
 have hg:=fun w=> Q62 g w
 generalize hI:(decide (0≤i) && decide (i < 6))=I at hb;generalize hG:(decide (1≤g) && decide (g≤100))=G at hg
 have HI:=Q02 (show I=true↔0≤i∧i < 6 by rw [←hI];simp)
 have HG:=Q02 (show G=true↔1≤g∧g≤100 by rw [←hG];simp)
 clear hI hG
 cases I <;> cases G
 all_goals (
  go_enter Tryz.func73,Tryz.ntmps73
  go_wp2_with (first|(go_at_call 61;refine (hb _).mono ?_;rintro e w1 ⟨rfl,rfl⟩)|(go_at_call 122;refine (hg _).mono ?_;rintro e w1 ⟨rfl,rfl⟩))
  all_goals go_ret
  all_goals refine ⟨Q0c (Qch ?_),by (repeat (first|with_reducible (first|exact hB|exact Below.refl _ _|refine Below.drew ?_|refine below_drewN ?_ _|refine Below.alloc ?_ ?_ _|refine Below.setCell ?_ ?_ _)|(focus (simp;first|done|omega))|omega))⟩
  all_goals (have h1:=HI.out;have h2:=HG.out;(try simp only [beq_iff_eq,beq_eq_false_iff_ne,ne_eq] at *);simp at h1 h2;simp [QdF];try omega))
abbrev Cd:=Int × Int × Int
def Q3N:Lay Cd:=⟨3,fun a=> [.int .i64 a.1,.int .i64 a.2.1,.int .i64 a.2.2],(0,0,0),fun _=> rfl⟩
abbrev RdC:=RdL Q3N
abbrev Qbr:=ownL Q3N 77
theorem RdL.cmd {C:Nat} {w:World} {b off:Nat} {l:List Cd} (h:∀i,i < l.length→∀j,j < Q3N.k→w.cell? ⟨b,off+i * Q3N.k+j,none⟩=(Q3N.cs (l.getD i Q3N.d))[j]?) (i:Nat) (hi:i < l.length):
  w.cell? ⟨b,off+i * 3,none⟩=some (.int .i64 (l.getD i (0,0,0)).1)∧w.cell? ⟨b,off+i * 3+1,none⟩=some (.int .i64 (l.getD i (0,0,0)).2.1)∧w.cell? ⟨b,off+i * 3+2,none⟩=some (.int .i64 (l.getD i (0,0,0)).2.2):=
 ⟨h i hi 0 (by decide),h i hi 1 (by decide),h i hi 2 (by decide)⟩
theorem Qh7:(Tryz.prog.info? 77).map (fun i=> (i.zero,i.size,i.bytes))=some (some (.agg #[.int .i64 0,.int .i64 0,.int .i64 0]),3,24):=by kernel_rfl
structure Jm where
 key:Int
 l:List Cd
 safe:Int
abbrev jrn (k:Int) (v:Value) (s:Int):Value:=.agg #[.int .i64 k,v,.int .i64 s]
abbrev InC:=InL Q3N 77
def RdJm (C:Nat) (w:World) (v:Value) (m:Jm):Prop:=∃vl,v=jrn m.key vl m.safe∧RdV Q3N C w vl m.l
def InJm (lo hi:Nat) (w:World) (v:Value) (m:Jm):Prop:=∃vl,v=jrn m.key vl m.safe∧InC lo hi w vl m.l
theorem RdJm.kept {C D:Nat} {w w':World} {v:Value} {m:Jm} (h:RdJm C w v m) (hb:Below D w w') (hc:C≤D):RdJm C w' v m:=by
 obtain ⟨vl,e,h1⟩:=h
 exact ⟨vl,e,h1.kept hb hc⟩
theorem RdJm.le {C D:Nat} {w:World} {v:Value} {m:Jm} (h:RdJm C w v m) (hc:C≤D):RdJm D w v m:=by
 obtain ⟨vl,e,h1⟩:=h
 exact ⟨vl,e,h1.le hc⟩
theorem InJm.rd {lo hi:Nat} {w:World} {v:Value} {m:Jm} (h:InJm lo hi w v m):RdJm hi w v m:=by
 obtain ⟨vl,e,h1⟩:=h
 exact ⟨vl,e,InL.rd (L:=Q3N) h1⟩
theorem InJm.step {a b lo hi:Nat} {w w':World} {v:Value} {m:Jm} (h:InJm a b w v m) (s:Stp lo hi w w') (hd:hi≤a∨b≤lo):InJm a b w' v m:=by
 obtain ⟨vl,e,h1⟩:=h
 exact ⟨vl,e,InRow.step h1 s hd⟩
def capJm (v:Value):Prop:=∃k vl s,v=jrn k vl s∧Qh8 vl
theorem InJm.cap {lo hi:Nat} {w:World} {v:Value} {m:Jm} (h:InJm lo hi w v m):capJm v:=by
 obtain ⟨vl,e,h1⟩:=h
 exact ⟨_,vl,_,e,InRow.cap h1⟩
theorem capJm.one {k s:Int} {o:Option Addr} {n c:Nat} (h:capJm (jrn k (.slice o n c) s)):o=none→c=0:=by
 obtain ⟨k',vl,s',e,h1⟩:=h
 injection e with e
 simp at e
 obtain ⟨_,e5,_⟩:=e
 exact fun h=> h1 n c (by rw [←e5,h])
def Qc6 (m:Jm):Prop:=m.l.length≤1048576
theorem Q9z (o1 o2:Option Addr) (c1 c2:Nat) (l:List Int) (w:World) (h1:RdI w.heap.size w o1 l) (h2:RdI w.heap.size w o2 l) (hl:l.length≤1048576):
  Calls Tryz.prog 15 #[.slice o1 l.length c1,.slice o2 l.length c2] w fun e w'=> e=.returned (.bool true)∧Below w.heap.size w w':=by
 go_enter Tryz.func15,Tryz.ntmps15
 go_wp2
 go_loopw [5] (fun i wr=> ∃k:Nat,k≤l.length∧i=.int .i64 k∧Below w.heap.size w wr)
  (fun i _=> l.length - (intOf i).toNat)
 case atStart=> exact ⟨0,Kcq _,rfl,Below.refl _ _⟩
 case round=>
  obtain ⟨k,hk,rfl,hBr⟩:=hrel
  by_cases hlt:k < l.length
  ·rcases h1 with h1|⟨b1,off1,rfl,hb1,hcell1⟩
   ·subst h1;simp at hlt
   rcases h2 with h2|⟨b2,off2,rfl,hb2,hcell2⟩
   ·subst h2;simp at hlt
   have hc1:wr.cell? ⟨b1,off1+k,none⟩=some (.int .i64 (l.getD k 0)):=(hBr.cell (p:=⟨b1,off1+k,none⟩) hb1).trans (RdL.int hcell1 k hlt);have hc2:wr.cell? ⟨b2,off2+k,none⟩=some (.int .i64 (l.getD k 0)):=(hBr.cell (p:=⟨b2,off2+k,none⟩) hb2).trans (RdL.int hcell2 k hlt);have HB:=Q02 hBr;clear hcell1 hcell2 hBr
   have i1:(k:Int) < (l.length:Int):=by omega
   generalize l.getD k 0=x at *
   go_wp2
   go_quiet (fail)
   go_wp2
   go_roundw
   case rel=> exact ⟨k+1,by omega,by go_num,below_drewN HB.out _⟩
   case measure=> simp [intOf];omega
  ·have e:k=l.length:=by omega
   subst e
   go_wp2
   go_ret
   exact ⟨rfl,hBr⟩
end Go.Proofs.YtpneolgdghbinaaGreat
