/- Several texts in one: LInts, SMoved. -/
import Derived.Deep.RegionHeld3
import Derived.Test.YtgplppfbinfelaaGreatQOldest05
namespace Go.Proofs.YtgplppfbinfelaaGreat
open Go.ChangeShapes Go.WideShapes Go.ChangeAt Go.RowKit Go.Joins
set_option linter.unusedVariables false
set_option linter.unusedSimpArgs false
set_option maxRecDepth 100000
set_option maxHeartbeats 40000000
theorem szIntS_any (o:Option Addr) (len cap:Nat) (n:Int) (w:World) (hl:len≤maxLen) (h0:0≤n) (h1:n≤1048576):
  Calls Tryz.prog 220 #[.slice o len cap,.int .i64 n] w fun e w'=> e=.returned (.int .i64 (if n - len < 0 then -1 else n - len))∧w=w':=by
 unfold maxLen at hl
 by_cases h:n - len < 0
 ·rw [if_pos h]
  go_enter Tryz.func220,Tryz.ntmps220
  go_wp2
  go_ret
  exact ⟨rfl,rfl⟩
 ·rw [if_neg h]
  go_enter Tryz.func220,Tryz.ntmps220
  go_wp2
  go_ret
  exact ⟨rfl,rfl⟩
def leftTo (ll:List (List Int)) (n:Int):Nat→Int
 |0=> n - ll.length
 |k+1=> leftTo ll n k - (ll.getD k []).length
theorem leftTo_le (ll:List (List Int)) (n:Int):∀k,leftTo ll n k≤n - ll.length
 |0=> Int.le_refl _
 |k+1=> by have:=leftTo_le ll n k;unfold leftTo;omega
def fits (ll:List (List Int)) (n:Int):Prop:=∀k,k≤ll.length→0≤leftTo ll n k
def leftLL (ll:List (List Int)) (n:Int):Int:=leftTo ll n ll.length
theorem szIntSS_any (o:Option Addr) (ll:List (List Int)) (cap:Nat) (n:Int) (w:World) (hR:RdLL w.heap.size w o ll) (hl:ll.length≤maxLen) (hx:∀i,i < ll.length→(ll.getD i []).length≤maxLen) (h0:0≤n) (h1:n≤1048576):
  Calls Tryz.prog 187 #[.slice o ll.length cap,.int .i64 n] w fun e w'=> (e=.returned (.int .i64 (-1))∨fits ll n∧e=.returned (.int .i64 (leftLL ll n)))∧Below w.heap.size w w':=by
 have hl':=hl
 unfold maxLen at hl'
 by_cases h:n - ll.length < 0
 ·go_enter Tryz.func187,Tryz.ntmps187
  go_wp2
  go_ret
  exact ⟨.inl rfl,Below.refl _ _⟩
 ·go_enter Tryz.func187,Tryz.ntmps187
  go_wp2
  go_loopw [1,5] (fun n' i wr=> ∃k:Nat,k≤ll.length∧i=.int .i64 k∧n'=.int .i64 (leftTo ll n k)∧(∀j,j≤k→0≤leftTo ll n j)∧Below w.heap.size w wr)
   (fun _ i _=> ll.length - (intOf i).toNat)
  case atStart=>
   refine ⟨0,Nat.zero_le _,rfl,rfl,fun j hj=> ?_,Below.refl _ _⟩
   have:j=0:=by omega
   subst this
   show 0≤n - ll.length
   omega
  case round=>
   obtain ⟨k,hk,rfl,rfl,hpos,hBr⟩:=hrel
   have hle:=leftTo_le ll n k
   have hp:=hpos k (Nat.le_refl _)
   by_cases hlt:k < ll.length
   ·obtain ⟨b,off,o',c',rfl,hb,hc,hr⟩:=((hR.kept hBr (Nat.le_refl _)).le hBr.size).at (Nat.le_refl _) k hlt
    have hxk:=hx k hlt
    have HS:=hide (show leftTo ll n (k+1)=leftTo ll n k - (ll.getD k []).length from rfl)
    have HP:=hide hpos
    have HB:=hide hBr
    have hz:=fun W=> szIntS_any o' (ll.getD k []).length c' (leftTo ll n k) W hxk hp (by omega)
    unfold maxLen at hxk
    clear hpos hr hBr hx
    generalize (ll.getD k []).length=q at *
    generalize hlk:leftTo ll n k=z at *
    by_cases hneg:z - q < 0
    ·rw [if_pos hneg] at hz
     go_wp2_with fail
     refine (hz _).mono ?_
     rintro e w2 ⟨rfl,rfl⟩
     go_wp2
     go_ret
     exact ⟨.inl rfl,HB.out⟩
    ·rw [if_neg hneg] at hz
     go_wp2_with fail
     refine (hz _).mono ?_
     rintro e w2 ⟨rfl,rfl⟩
     go_wp2
     go_roundw
     case rel=>
      refine ⟨k+1,by omega,by go_num,by rw [HS.out],fun j hj=> ?_,HB.out⟩
      rcases Nat.lt_succ_iff_lt_or_eq.1 (Nat.lt_succ_of_le hj) with h'|h'
      ·exact HP.out j (by omega)
      ·rw [h',HS.out];omega
     case measure=> simp [intOf];omega
   ·have e:k=ll.length:=by omega
    subst e
    have HE:=hide (show leftTo ll n ll.length=leftLL ll n from rfl)
    have HF:=hide (show fits ll n from hpos)
    clear hpos
    go_wp2
    go_ret
    exact ⟨.inr ⟨HF.out,ret_int HE.out⟩,hBr⟩
theorem fillI_step {w wr:World} {base g c:Nat} {l:List Int} {k:Nat} (hk:k < l.length) (hg:base≤g) (hown:wr.ownsRow w.heap.size 3 1 (.slice (some ⟨g,0,none⟩) l.length c) l.length ((fillL layI l k).flatMap layI.cs))
  (hB:Below base w wr):(wr.setCell ⟨g,k,none⟩ (.int .i64 (l.getD k 0))).ownsRow w.heap.size 3 1 (.slice (some ⟨g,0,none⟩) l.length c) l.length ((fillL layI l (k+1)).flatMap layI.cs)∧
   Below base w (wr.setCell ⟨g,k,none⟩ (.int .i64 (l.getD k 0))):=by
 have h:=(hown.stored k (.int .i64 (l.getD k 0))).1
 rw [flat_set1 layI rfl (a:=l.getD k 0) rfl,show l.getD k 0=l.getD k layI.d from rfl,fillL_set layI l k hk] at h
 exact ⟨h,hB.setCell (p:=⟨g,k,none⟩) hg _⟩
theorem toIntS_any (o:Option Addr) (cap:Nat) (l:List Int) (w:World) (hR:RdI w.heap.size w o l) (hlen:l.length≤1048576):
  Calls Tryz.prog 17 #[.slice o l.length cap] w fun e w'=> ∃g,e=.returned (.slice (some ⟨g,0,none⟩) l.length l.length)∧ownI w' w.heap.size (.slice (some ⟨g,0,none⟩) l.length l.length) l∧Below w.heap.size w w':=by
 obtain ⟨i0,hi,hz0,hz1,hz2⟩:=info_parts infoInt
 have hB:Below w.heap.size w w:=Below.refl _ _
 go_enter Tryz.func17,Tryz.ntmps17
 go_wp2_with (at_make;refine wpList_make_full _ rfl _ _ 60 rfl w.heap.size 3 i0 (.int .i64 0) 1 Tryz.underlying60 hi hz0 hz1 _ _ _ _ l.length rfl rfl rfl rfl ?b2 ?b3 ?b4 ?_)
 case b2=> rw [hz2];omega
 case b3=> unfold maxLen;omega
 case b4=> simp
 intro w1 hown hgrow
 have hB1:Below w.heap.size w w1:=hB.grown hgrow (Nat.le_refl _) (fun k h=> by cases h)
 have hown1:w1.ownsRow w.heap.size 3 1 (.slice (some ⟨w.heap.size,0,none⟩) l.length l.length) l.length ((fillL layI l 0).flatMap layI.cs):=by
  rw [fillL_zero,←made_flat layI (.int .i64 0) rfl,show layI.k=1 from rfl,Nat.mul_one];exact hown
 clear hown hgrow hB
 go_wp2
 go_loopw [4] (fun i wr=> ∃k:Nat,k≤l.length∧i=.int .i64 k∧wr.ownsRow w.heap.size 3 1 (.slice (some ⟨w.heap.size,0,none⟩) l.length l.length) l.length ((fillL layI l k).flatMap layI.cs)∧Below w.heap.size w wr)
  (fun i _=> l.length - (intOf i).toNat)
 case atStart=> exact ⟨0,Nat.zero_le _,rfl,hown1,hB1⟩
 case round=>
  obtain ⟨k,hk,rfl,hown,hBr⟩:=hrel
  by_cases hlt:k < l.length
  ·rcases hR with hR|⟨b,off,rfl,hbl,hcell⟩
   ·subst hR;simp at hlt
   have hc:wr.cell? ⟨b,off+k,none⟩=some (.int .i64 (l.getD k 0)):=(hBr.cell (p:=⟨b,off+k,none⟩) hbl).trans (RdL.int hcell k hlt)
   have hln:((fillL layI l k).flatMap layI.cs).length=l.length:=by rw [flat_length,fillL_length layI l k hk];exact Nat.mul_one _
   have hcl:=hown.cellAt k (by omega)
   have hfr:=hown.frozenAt k
   obtain ⟨u,hu⟩:∃u,wr.cell? ⟨w.heap.size,k,none⟩=some u:=⟨_,hcl.trans (List.getElem?_eq_getElem (by omega))⟩
   have HR:=hide (fillI_step (g:=w.heap.size) hlt (Nat.le_refl _) hown hBr)
   clear hown hBr hcl hB1 hown1 hln hcell
   generalize l.getD k 0=x at *
   go_wp2
   go_roundw
   case rel=> exact ⟨k+1,by omega,by go_num,HR.out.1,HR.out.2⟩
   case measure=> simp [intOf];omega
  ·have e:k=l.length:=by omega
   subst e
   rw [fillL_all] at hown
   go_wp2
   go_ret
   exact ⟨w.heap.size,rfl,hown,hBr⟩
theorem eqIntSS_same (o1 o2:Option Addr) (c1 c2:Nat) (ll:List (List Int)) (w:World) (h1:RdLL w.heap.size w o1 ll) (h2:RdLL w.heap.size w o2 ll) (hl:ll.length≤1048576) (hx:∀i,i < ll.length→(ll.getD i []).length≤1048576):
  Calls Tryz.prog 208 #[.slice o1 ll.length c1,.slice o2 ll.length c2] w fun e w'=> e=.returned (.bool true)∧Below w.heap.size w w':=by
 go_enter Tryz.func208,Tryz.ntmps208
 go_wp2
 go_loopw [5] (fun i wr=> ∃k:Nat,k≤ll.length∧i=.int .i64 k∧Below w.heap.size w wr)
  (fun i _=> ll.length - (intOf i).toNat)
 case atStart=> exact ⟨0,Nat.zero_le _,rfl,Below.refl _ _⟩
 case round=>
  obtain ⟨k,hk,rfl,hBr⟩:=hrel
  by_cases hlt:k < ll.length
  ·obtain ⟨b1,off1,o1',c1',rfl,hb1,hc1,hr1⟩:=((h1.kept hBr (Nat.le_refl _)).le hBr.size).at (Nat.le_refl _) k hlt
   obtain ⟨b2,off2,o2',c2',rfl,hb2,hc2,hr2⟩:=((h2.kept hBr (Nat.le_refl _)).le hBr.size).at (Nat.le_refl _) k hlt
   have hxk:=hx k hlt
   have HB:=hide hBr
   have G1:=Grown.cell hc1 hb1
   have G2:=Grown.cell hc2 hb2
   have HE:=hide (fun p:Grown wr=> eqIntS_same o1' o2' c1' c2' (ll.getD k []) p.v ((hr1.kept p.b (Nat.le_refl _)).le p.b.size) ((hr2.kept p.b (Nat.le_refl _)).le p.b.size) hxk)
   clear hBr hr1 hr2 hx h1 h2 hc1 hc2
   have i1:(k:Int) < (ll.length:Int):=by omega
   generalize ll.getD k []=row at *
   go_wp2
   (refine wp_region_grown (by kernel_rfl) (by kernel_rfl) ?_;intro hne9;(repeat (go_big_quiet_step ((go_at_call 19;exact grown_of _ (HE.out _)))));(with_reducible refine wpQuiet_nil ?_);intro _ hw9;obtain ⟨pq,hw8⟩:=hw9;subst hw8)
   go_wp2
   go_roundw
   case rel=> exact ⟨k+1,by omega,by go_num,HB.out.trans (pq.b.mono HB.out.size)⟩
   case measure=> simp [intOf];omega
  ·have e:k=ll.length:=by omega
   subst e
   go_wp2
   go_ret
   exact ⟨rfl,hBr⟩
def movedTo (aa bb:List (List Int)):Nat→Int
 |0=> 0
 |k+1=> movedTo aa bb k+(if aa.getD k []=bb.getD k [] then 0 else 1)
theorem movedTo_bd (aa bb:List (List Int)):∀k,0≤movedTo aa bb k∧movedTo aa bb k≤k
 |0=> ⟨Int.le_refl _,Int.le_refl _⟩
 |k+1=> by have:=movedTo_bd aa bb k;unfold movedTo;split <;> omega
def movedI (aa bb:List (List Int)):Int:=if aa.length=8∧bb.length=8 then movedTo aa bb 8 else -1
theorem movedI_no {aa bb:List (List Int)} (h:¬(aa.length=8∧bb.length=8)): -1=movedI aa bb:=by rw [movedI,if_neg h]
theorem movedTo_same {aa bb:List (List Int)} {k:Nat} {ra rb:List Int} (h1:aa.getD k []=ra) (h2:bb.getD k []=rb) (h:ra=rb):movedTo aa bb k=movedTo aa bb (k+1):=by
 unfold movedTo;rw [h1,h2,if_pos h];cases k <;> simp [movedTo]
theorem movedTo_diff {aa bb:List (List Int)} {k:Nat} {ra rb:List Int} (h1:aa.getD k []=ra) (h2:bb.getD k []=rb) (h:ra≠rb):movedTo aa bb k+1=movedTo aa bb (k+1):=by
 rw [show movedTo aa bb (k+1)=movedTo aa bb k+(if aa.getD k []=bb.getD k [] then 0 else 1) from rfl,h1,h2,if_neg h]
theorem slicesEqual_any (o1 o2:Option Addr) (c1 c2:Nat) (l1 l2:List Int) (w:World) (h1:RdI w.heap.size w o1 l1) (h2:RdI w.heap.size w o2 l2) (hl1:l1.length≤1048576) (hl2:l2.length≤1048576):
  Calls Tryz.prog 244 #[.slice o1 l1.length c1,.slice o2 l2.length c2] w fun e w'=> e=.returned (.bool (decide (l1=l2)))∧Below w.heap.size w w':=by
 by_cases hlen:l1.length=l2.length
 ·have hne:((l1.length:Int) !=(l2.length:Int))=false:=by simp [hlen]
  have HL:=hide hlen
  have hle:l1.length≤l2.length:=by omega
  have hge:l2.length≤l1.length:=by omega
  clear hlen
  go_enter Tryz.func244,Tryz.ntmps244
  go_wp2
  go_loopw [4,13] (fun rv i wr=> ∃k:Nat,k≤l1.length∧i=.int .i64 k∧rv=.bool false∧l1.take k=l2.take k∧Below w.heap.size w wr)
   (fun _ i _=> l1.length - (intOf i).toNat)
  case atStart=> exact ⟨0,Nat.zero_le _,rfl,rfl,rfl,Below.refl _ _⟩
  case round=>
   obtain ⟨k,hk,rfl,rfl,htk,hBr⟩:=hrel
   have HT:=hide htk
   by_cases hlt:k < l1.length
   ·rcases h1 with h1|⟨b1,off1,rfl,hb1,hcell1⟩
    ·subst h1;simp at hlt
    rcases h2 with h2|⟨b2,off2,rfl,hb2,hcell2⟩
    ·subst h2;simp at hle;simp [hle] at hlt
    have hlt2:k < l2.length:=by omega
    have hc1:wr.cell? ⟨b1,off1+k,none⟩=some (.int .i64 (l1.getD k 0)):=(hBr.cell (p:=⟨b1,off1+k,none⟩) hb1).trans (RdL.int hcell1 k hlt)
    have hc2:wr.cell? ⟨b2,off2+k,none⟩=some (.int .i64 (l2.getD k 0)):=(hBr.cell (p:=⟨b2,off2+k,none⟩) hb2).trans (RdL.int hcell2 k hlt2)
    have HB:=hide hBr
    have t1:=hide (take_succ_getD l1 k hlt)
    have t2:=hide (take_succ_getD l2 k hlt2)
    have N12:Hid (l1=l2→l1.getD k 0=l2.getD k 0):=fun h=> by rw [h]
    clear hcell1 hcell2
    have i1:(k:Int) < (l1.length:Int):=by omega
    have i2:(k:Int) < (l2.length:Int):=by omega
    generalize l1.getD k 0=x at *
    generalize l2.getD k 0=y at *
    clear htk hBr
    by_cases hxy:x=y
    ·have hb:(x !=y)=false:=by simp [hxy]
     have HX:=hide hxy
     clear hxy N12
     go_wp2
     go_quiet (fail)
     go_wp2
     go_roundw
     case rel=>
      refine ⟨k+1,by omega,by go_num,rfl, ?_, ?_⟩
      ·rw [t1.out,t2.out,HT.out,HX.out]
      ·exact below_drewN HB.out _
     case measure=> simp [intOf];omega
    ·have hb:(x !=y)=true:=by simp [hxy]
     have HX:Hid (l1≠l2):=fun h=> hxy (N12.out h)
     clear hxy N12 t1 t2
     go_wp2
     go_quiet (fail)
     go_wp2
     go_ret
     exact ⟨ret_bool (decide_eq_false HX.out).symm,below_drewN HB.out _⟩
   ·have e:l1=l2:=by
     have:=htk;rw [List.take_of_length_le (by omega),List.take_of_length_le (by omega)] at this;exact this
    have HE:=hide e
    have HB:=hide hBr
    clear e htk hBr
    go_wp2
    go_ret
    exact ⟨ret_bool (decide_eq_true HE.out).symm,HB.out⟩
 ·have hne:((l1.length:Int) !=(l2.length:Int))=true:=by simp;omega
  have HE:Hid (l1≠l2):=fun h=> hlen (by rw [h])
  go_enter Tryz.func244,Tryz.ntmps244
  go_wp2
  go_ret
  exact ⟨ret_bool (decide_eq_false HE.out).symm,Below.refl _ _⟩
theorem implMoved_any (oa ob:Option Addr) (ca cb:Nat) (aa bb:List (List Int)) (w:World) (hA:RdLL w.heap.size w oa aa) (hB:RdLL w.heap.size w ob bb) (la:aa.length≤1048576) (lb:bb.length≤1048576)
  (xa:∀i,i < aa.length→(aa.getD i []).length≤1048576) (xb:∀i,i < bb.length→(bb.getD i []).length≤1048576):
  Calls Tryz.prog 229 #[.slice oa aa.length ca,.slice ob bb.length cb] w fun e w'=> e=.returned (.int .i64 (movedI aa bb))∧Below w.heap.size w w':=by
 by_cases h8:aa.length=8∧bb.length=8
 ·have HE:=hide (show movedTo aa bb 8=movedI aa bb by rw [movedI,if_pos h8])
  obtain ⟨e1,e2⟩:=h8
  have HE1:=hide e1
  have HE2:=hide e2
  go_enter Tryz.func229,Tryz.ntmps229
  go_wp2
  clear e1 e2
  go_loopw [5,18] (fun n i wr=> ∃k:Nat,k≤8∧i=.int .i64 k∧n=.int .i64 (movedTo aa bb k)∧Below w.heap.size w wr)
   (fun _ i _=> 8 - (intOf i).toNat)
  case atStart=> exact ⟨0,Nat.zero_le _,rfl,rfl,Below.refl _ _⟩
  case round=>
   obtain ⟨k,hk,rfl,rfl,hBr⟩:=hrel
   have hbd:=movedTo_bd aa bb k
   by_cases hlt:k < 8
   ·have i1:k < aa.length:=by rw [HE1.out];exact hlt
    have i2:k < bb.length:=by rw [HE2.out];exact hlt
    have j1:(k:Int) < (aa.length:Int):=by omega
    have j2:(k:Int) < (bb.length:Int):=by omega
    obtain ⟨b1,off1,o1',c1',rfl,hb1,hc1,hr1⟩:=hA.at (Nat.le_refl _) k i1
    obtain ⟨b2,off2,o2',c2',rfl,hb2,hc2,hr2⟩:=hB.at (Nat.le_refl _) k i2
    have hxa:=xa k i1
    have hxb:=xb k i2
    have hc1r:=(hBr.cell (p:=⟨b1,off1+k,none⟩) hb1).trans hc1
    have hc2r:=(hBr.cell (p:=⟨b2,off2+k,none⟩) hb2).trans hc2
    replace hr1:=(hr1.kept hBr (Nat.le_refl _)).le hBr.size
    replace hr2:=(hr2.kept hBr (Nat.le_refl _)).le hBr.size
    have HB:=hide hBr
    clear hc1 hc2 xa xb hA hB hBr
    generalize hra:aa.getD k []=ra at *
    generalize hrb:bb.getD k []=rb at *
    have hq:=slicesEqual_any o1' o2' c1' c2' ra rb wr hr1 hr2 hxa hxb
    clear hr1 hr2
    by_cases hab:ra=rb
    ·have HM:=hide (movedTo_same hra hrb hab)
     rw [decide_eq_true hab] at hq
     clear hra hrb hab
     go_wp2_with fail
     refine hq.mono ?_
     rintro e w2 ⟨rfl,hb2'⟩
     go_wp2
     go_roundw
     case rel=> exact ⟨k+1,by omega,by go_num,by rw [HM.out],HB.out.trans (hb2'.mono HB.out.size)⟩
     case measure=> simp [intOf];omega
    ·have HM:=hide (movedTo_diff hra hrb hab)
     rw [decide_eq_false hab] at hq
     clear hra hrb hab
     go_wp2_with fail
     refine hq.mono ?_
     rintro e w2 ⟨rfl,hb2'⟩
     go_wp2
     go_roundw
     case rel=> exact ⟨k+1,by omega,by go_num,by rw [←HM.out],HB.out.trans (hb2'.mono HB.out.size)⟩
     case measure=> simp [intOf];omega
   ·have e:k=8:=by omega
    subst e
    go_wp2
    go_ret
    exact ⟨ret_int HE.out,hBr⟩
 ·have HN:=hide (movedI_no h8)
  by_cases h1:aa.length=8
  ·have h2:¬bb.length=8:=fun h=> h8 ⟨h1,h⟩
   have n2:((bb.length:Int) !=8)=true:=by simp;omega
   go_enter Tryz.func229,Tryz.ntmps229
   go_wp2
   go_ret
   exact ⟨ret_int HN.out,Below.refl _ _⟩
  ·have n1:((aa.length:Int) !=8)=true:=by simp;omega
   go_enter Tryz.func229,Tryz.ntmps229
   go_wp2
   go_ret
   exact ⟨ret_int HN.out,Below.refl _ _⟩
theorem specMoved_any (oa ob:Option Addr) (ca cb:Nat) (aa bb:List (List Int)) (w:World) (hA:RdLL w.heap.size w oa aa) (hB:RdLL w.heap.size w ob bb) (la:aa.length≤1048576) (lb:bb.length≤1048576)
  (xa:∀i,i < aa.length→(aa.getD i []).length≤1048576) (xb:∀i,i < bb.length→(bb.getD i []).length≤1048576):
  Calls Tryz.prog 149 #[.slice oa aa.length ca,.slice ob bb.length cb] w fun e w'=> e=.returned (.int .i64 (movedI aa bb))∧Below w.heap.size w w':=by
 by_cases h8:aa.length=8∧bb.length=8
 ·have HE:=hide (show movedTo aa bb 8=movedI aa bb by rw [movedI,if_pos h8])
  obtain ⟨e1,e2⟩:=h8
  have HE1:=hide e1
  have HE2:=hide e2
  go_enter Tryz.func149,Tryz.ntmps149
  go_wp2
  have la8:aa.length≤8:=by omega
  have lb8:8≤aa.length:=by omega
  clear e1 e2
  go_loopw [5,6] (fun n i wr=> ∃k:Nat,k≤8∧i=.int .i64 k∧n=.int .i64 (movedTo aa bb k)∧Below w.heap.size w wr)
   (fun _ i _=> 8 - (intOf i).toNat)
  case atStart=> exact ⟨0,Nat.zero_le _,rfl,rfl,Below.refl _ _⟩
  case round=>
   obtain ⟨k,hk,rfl,rfl,hBr⟩:=hrel
   have hbd:=movedTo_bd aa bb k
   by_cases hlt:k < 8
   ·have i1:k < aa.length:=by rw [HE1.out];exact hlt
    have i2:k < bb.length:=by rw [HE2.out];exact hlt
    have j1:(k:Int) < (aa.length:Int):=by omega
    have j2:(k:Int) < (bb.length:Int):=by omega
    obtain ⟨b1,off1,o1',c1',rfl,hb1,hc1,hr1⟩:=hA.at (Nat.le_refl _) k i1
    obtain ⟨b2,off2,o2',c2',rfl,hb2,hc2,hr2⟩:=hB.at (Nat.le_refl _) k i2
    have hxa:=xa k i1
    have hxb:=xb k i2
    have hc1r:=(hBr.cell (p:=⟨b1,off1+k,none⟩) hb1).trans hc1
    have hc2r:=(hBr.cell (p:=⟨b2,off2+k,none⟩) hb2).trans hc2
    have HB:=hide hBr
    clear xa xb hA hB hBr
    generalize hra:aa.getD k []=ra at *
    generalize hrb:bb.getD k []=rb at *
    have HS:=hide (movedTo_same hra hrb)
    have HD:=hide (movedTo_diff hra hrb)
    clear hra hrb
    go_wp2
    go_quiet (fail)
    have hBq:Below w.heap.size w (wr.drewN nq):=below_drewN HB.out _
    have hq1:=(hBq.cell (p:=⟨b1,off1+k,none⟩) hb1).trans hc1
    have hq2:=(hBq.cell (p:=⟨b2,off2+k,none⟩) hb2).trans hc2
    clear HB hc1r hc2r
    generalize wr.drewN nq=wo at *
    have HBo:=hide hBq
    clear hBq
    go_wp2
    go_loopw [7,8] (fun s j wi=> ∃(q:Nat) (t:Bool),q≤ra.length∧j=.int .i64 q∧s=.bool t∧(t=true↔ra.length=rb.length∧ra.take q=rb.take q)∧Below w.heap.size w wi)
     (fun _ j _=> ra.length - (intOf j).toNat)
    case atStart=> exact ⟨0,_,Nat.zero_le _,rfl,rfl,by simp [Int.ofNat_inj],HBo.out⟩
    case round=>
     obtain ⟨q,t,hq,rfl,rfl,ht,hBi⟩:=hrel
     have HT:=hide ht
     have HBi:=hide hBi
     have r1:=(hBi.cell (p:=⟨b1,off1+k,none⟩) hb1).trans hc1
     have r2:=(hBi.cell (p:=⟨b2,off2+k,none⟩) hb2).trans hc2
     clear ht hBi hq1 hq2
     by_cases hql:q < ra.length
     ·cases t with
      |true=>
       obtain ⟨HL,HTk⟩:=HT.out.1 rfl
       have hqr:q < rb.length:=by omega
       have z1:(q:Int) < (ra.length:Int):=by omega
       have z2:(q:Int) < (rb.length:Int):=by omega
       have HL':=hide HL
       have HTk':=hide HTk
       rcases hr1 with hr1|⟨g1,f1,rfl,hg1,hcell1⟩
       ·subst hr1;simp at hql
       rcases hr2 with hr2|⟨g2,f2,rfl,hg2,hcell2⟩
       ·subst hr2;simp at hqr
       have y1:wr.cell? ⟨g1,f1+q,none⟩=some (.int .i64 (ra.getD q 0)):=(HBi.out.cell (p:=⟨g1,f1+q,none⟩) hg1).trans (RdL.int hcell1 q hql)
       have y2:wr.cell? ⟨g2,f2+q,none⟩=some (.int .i64 (rb.getD q 0)):=(HBi.out.cell (p:=⟨g2,f2+q,none⟩) hg2).trans (RdL.int hcell2 q hqr)
       have t1:=hide (take_succ_getD ra q hql)
       have t2:=hide (take_succ_getD rb q hqr)
       clear hcell1 hcell2 HT HL HTk hc1 hc2
       generalize ra.getD q 0=x at *
       generalize rb.getD q 0=y at *
       go_wp2
       go_quiet (fail)
       go_wp2
       go_roundw
       case rel=>
        refine ⟨q+1,_,by omega,by go_num,rfl, ?_,below_drewN HBi.out _⟩
        rw [t1.out,t2.out,HTk'.out,List.append_cancel_left_eq]
        simp [HL'.out]
       case measure=> simp [intOf];omega
      |false=>
       have HN:Hid (ra≠rb):=fun h=> by
        have:=HT.out.2 ⟨by rw [h],by rw [h]⟩
        cases this
       have HM:=hide (HD.out HN.out)
       have z1:(q:Int) < (ra.length:Int):=by omega
       clear HT hc1 hc2
       go_wp2
       go_roundw
       case rel=> exact ⟨k+1,by omega,by go_num,by rw [←HM.out],HBi.out⟩
       case measure=> simp [intOf];omega
     ·have eq:q=ra.length:=by omega
      subst eq
      have z1:¬(ra.length:Int) < (ra.length:Int):=by omega
      cases t with
      |true=>
       have HY:Hid (ra=rb):=by
        obtain ⟨h1,h2⟩:=HT.out.1 rfl
        rw [List.take_of_length_le (Nat.le_refl _),List.take_of_length_le (by omega)] at h2
        exact h2
       have HM:=hide (HS.out HY.out)
       clear HT hc1 hc2
       go_wp2
       go_roundw
       case rel=> exact ⟨k+1,by omega,by go_num,by rw [HM.out],HBi.out⟩
       case measure=> simp [intOf];omega
      |false=>
       have HN:Hid (ra≠rb):=fun h=> by
        have:=HT.out.2 ⟨by rw [h],by rw [h]⟩
        cases this
       have HM:=hide (HD.out HN.out)
       clear HT hc1 hc2
       go_wp2
       go_roundw
       case rel=> exact ⟨k+1,by omega,by go_num,by rw [←HM.out],HBi.out⟩
       case measure=> simp [intOf];omega
   ·have e:k=8:=by omega
    subst e
    have nl:¬(8:Int) < (aa.length:Int):=by omega
    go_wp2
    go_ret
    exact ⟨ret_int HE.out,hBr⟩
 ·have HN:=hide (movedI_no h8)
  by_cases h1:aa.length=8
  ·have h2:¬bb.length=8:=fun h=> h8 ⟨h1,h⟩
   have n2:((bb.length:Int) !=8)=true:=by simp;omega
   go_enter Tryz.func149,Tryz.ntmps149
   go_wp2
   go_ret
   exact ⟨ret_int HN.out,Below.refl _ _⟩
  ·have n1:((aa.length:Int) !=8)=true:=by simp;omega
   go_enter Tryz.func149,Tryz.ntmps149
   go_wp2
   go_ret
   exact ⟨ret_int HN.out,Below.refl _ _⟩
end Go.Proofs.YtgplppfbinfelaaGreat
