/- Several texts in one: LSegs, LCarr. -/
import Derived.Deep.RegionHeld3
import Derived.Test.YtgplppfbinfelaaGreatQOldest21
namespace Go.Proofs.YtgplppfbinfelaaGreat
open Go.ChangeShapes Go.WideShapes Go.ChangeAt Go.RowKit Go.Joins
set_option linter.unusedVariables false
set_option linter.unusedSimpArgs false
set_option maxRecDepth 100000
set_option maxHeartbeats 40000000
def fillG (l:List (Int × Int)) (k:Nat):List (Int × Int):=l.take k++List.replicate (l.length - k) (0,0)
theorem fillG_length (l:List (Int × Int)) (k:Nat) (h:k≤l.length):(fillG l k).length=l.length:=by simp [fillG];omega
theorem fillG_zero (l:List (Int × Int)):fillG l 0=List.replicate l.length (0,0):=by simp [fillG]
theorem fillG_all (l:List (Int × Int)):fillG l l.length=l:=by simp [fillG]
theorem flatG_set:∀(l:List (Int × Int)) (k:Nat) (p:Int × Int),((flatG l).set (k * 2) p.1).set (k * 2+1) p.2=flatG (l.set k p)
 |[],k,p=> by simp [flatG]
 |q::l,0,p=> by simp [flatG]
 |q::l,k+1,p=> by
  rw [show (k+1) * 2=k * 2+1+1 by omega]
  simp only [flatG,List.set_cons_succ]
  rw [flatG_set l k p]
theorem cellsG_set (l:List (Int × Int)) (k:Nat) (p:Int × Int):((cellsG l).set (k * 2) (.int .i64 p.1)).set (k * 2+1) (.int .i64 p.2)=cellsG (l.set k p):=by
 unfold cellsG
 rw [←List.map_set,←List.map_set,flatG_set]
theorem fillG_set (l:List (Int × Int)) (k:Nat) (h:k < l.length):(fillG l k).set k (l.getD k (0,0))=fillG l (k+1):=by
 have e1:l.length - k=(l.length - (k+1))+1:=by omega
 have e2:(l.take k).length=k:=by simp;omega
 unfold fillG
 rw [e1,List.replicate_succ,List.set_append_right _ _ (by omega),e2,Nat.sub_self,List.set_cons_zero,takeG_succ l k h,List.append_assoc]
 rfl
theorem flatG_replicate:∀n:Nat,flatG (List.replicate n (0,0))=List.replicate (n * 2) 0
 |0=> rfl
 |n+1=> by rw [List.replicate_succ,show (n+1) * 2=n * 2+1+1 by omega,List.replicate_succ,List.replicate_succ];simp [flatG,flatG_replicate n]
theorem madeCells_two (n:Nat):(madeCells #[.int .i64 0,.int .i64 0] n).toList=List.replicate n (.int .i64 0):=by
 apply List.ext_getElem?
 intro j
 by_cases hj:j < n
 ·have h2:j % 2=0∨j % 2=1:=by omega
  rcases h2 with h|h <;> simp [madeCells,hj,h]
 ·simp [madeCells,hj]
theorem fillG_step {w wr:World} {base g c:Nat} {l:List (Int × Int)} {k:Nat} {x y:Int} (hxy:l.getD k (0,0)=(x,y)) (hk:k < l.length) (hg:base≤g) (hown:wr.ownsRow w.heap.size 231 2 (.slice (some ⟨g,0,none⟩) l.length c) l.length (cellsG (fillG l k)))
  (hB:Below base w wr):((wr.setCell ⟨g,k * 2,none⟩ (.int .i64 x)).setCell ⟨g,k * 2+1,none⟩ (.int .i64 y)).ownsRow w.heap.size 231 2 (.slice (some ⟨g,0,none⟩) l.length c) l.length (cellsG (fillG l (k+1)))∧
   Below base w ((wr.setCell ⟨g,k * 2,none⟩ (.int .i64 x)).setCell ⟨g,k * 2+1,none⟩ (.int .i64 y)):=by
 have h:=((hown.stored (k * 2) (.int .i64 x)).1.stored (k * 2+1) (.int .i64 y)).1
 rw [cellsG_set _ k (x,y),←hxy,fillG_set l k hk] at h
 exact ⟨h,(hB.setCell (p:=⟨g,k * 2,none⟩) hg _).setCell (p:=⟨g,k * 2+1,none⟩) hg _⟩
theorem szSegS_any (o:Option Addr) (len cap:Nat) (n:Int) (w:World) (hl:len≤maxLen) (h0:0≤n) (h1:n≤1048576):
  Calls Tryz.prog 189 #[.slice o len cap,.int .i64 n] w fun e w'=> e=.returned (.int .i64 (if n - len < 0 then -1 else n - len))∧w=w':=by
 unfold maxLen at hl
 by_cases h:n - len < 0
 ·rw [if_pos h]
  go_enter Tryz.func189,Tryz.ntmps189
  go_wp2
  go_ret
  exact ⟨rfl,rfl⟩
 ·rw [if_neg h]
  go_enter Tryz.func189,Tryz.ntmps189
  go_wp2
  go_ret
  exact ⟨rfl,rfl⟩
theorem toSegS_any (o:Option Addr) (cap:Nat) (l:List (Int × Int)) (w:World) (hR:RdG w o l) (hlen:l.length≤1048576):
  Calls Tryz.prog 198 #[.slice o l.length cap] w fun e w'=> ∃g,e=.returned (.slice (some ⟨g,0,none⟩) l.length l.length)∧ownG w' w.heap.size (.slice (some ⟨g,0,none⟩) l.length l.length) l∧Below w.heap.size w w':=by
 obtain ⟨i0,hi,hz0,hz1,hz2⟩:=info_parts infoSeg
 have hB:Below w.heap.size w w:=Below.refl _ _
 go_enter Tryz.func198,Tryz.ntmps198
 go_wp2_with (at_make;refine wpList_make_full _ rfl _ _ 92 rfl w.heap.size 231 i0 (.agg #[.int .i64 0,.int .i64 0]) 2 Tryz.underlying92 hi hz0 hz1 _ _ _ _ l.length rfl rfl rfl rfl ?b2 ?b3 ?b4 ?_)
 case b2=> rw [hz2];omega
 case b3=> unfold maxLen;omega
 case b4=> simp
 intro w1 hown hgrow
 have hB1:Below w.heap.size w w1:=hB.grown hgrow (Nat.le_refl _) (fun k h=> by cases h)
 have hown1:w1.ownsRow w.heap.size 231 2 (.slice (some ⟨w.heap.size,0,none⟩) l.length l.length) l.length (cellsG (fillG l 0)):=by
  rw [fillG_zero,cellsG,flatG_replicate];simpa [madeCells_two,Value.cells] using hown
 clear hown hgrow hB
 go_wp2
 go_loopw [4] (fun i wr=> ∃k:Nat,k≤l.length∧i=.int .i64 k∧wr.ownsRow w.heap.size 231 2 (.slice (some ⟨w.heap.size,0,none⟩) l.length l.length) l.length (cellsG (fillG l k))∧Below w.heap.size w wr)
  (fun i _=> l.length - (intOf i).toNat)
 case atStart=> exact ⟨0,Nat.zero_le _,rfl,hown1,hB1⟩
 case round=>
  obtain ⟨k,hk,rfl,hown,hBr⟩:=hrel
  by_cases hlt:k < l.length
  ·rcases hR with hR|⟨b,off,rfl,hbl,hcell⟩
   ·subst hR;simp at hlt
   obtain ⟨x,y,hxy⟩:∃x y,l.getD k (0,0)=(x,y):=⟨_,_,rfl⟩
   have hcx:=hcell k hlt
   rw [hxy] at hcx
   have hc0:wr.cell? ⟨b,off+k * 2,none⟩=some (.int .i64 x):=(hBr.cell (p:=⟨b,off+k * 2,none⟩) hbl).trans hcx.1
   have hc1:wr.cell? ⟨b,off+k * 2+1,none⟩=some (.int .i64 y):=(hBr.cell (p:=⟨b,off+k * 2+1,none⟩) hbl).trans hcx.2
   have HW:=hide (hlt)
   clear hcell hcx
   go_wp2_with fail
   refine (toSeg_any _ _ _).mono ?_
   rintro e w2 ⟨rfl,hb2⟩
   have hB2:Below w.heap.size w w2:=hBr.trans (hb2.mono hBr.size)
   have hown2:=own_kept hown hb2
   have hln:(cellsG (fillG l k)).length=l.length * 2:=by simp [cellsG,flatG_length,fillG_length l k hk]
   have hcl0:=hown2.cellAt (k * 2) (by omega)
   have hcl1:=hown2.cellAt (k * 2+1) (by omega)
   have hf0:=hown2.frozenAt (k * 2)
   have hf1:=hown2.frozenAt (k * 2+1)
   obtain ⟨u0,hu0⟩:∃u,w2.cell? ⟨w.heap.size,k * 2,none⟩=some u:=⟨_,hcl0.trans (List.getElem?_eq_getElem (by omega))⟩
   obtain ⟨u1,hu1⟩:∃u,w2.cell? ⟨w.heap.size,k * 2+1,none⟩=some u:=⟨_,hcl1.trans (List.getElem?_eq_getElem (by omega))⟩
   have HR:=hide (fillG_step (g:=w.heap.size) hxy hlt (Nat.le_refl _) hown2 hB2)
   clear hxy hown hBr hcl0 hcl1 hB1 hown1 hown2 hc0 hc1 hb2
   go_wp2
   go_roundw
   case rel=> exact ⟨k+1,by omega,by go_num,HR.out.1,HR.out.2⟩
   case measure=> simp [intOf];omega
  ·have e:k=l.length:=by omega
   subst e
   rw [fillG_all] at hown
   go_wp2
   go_ret
   exact ⟨w.heap.size,rfl,hown,hBr⟩
theorem eqSegS_same (o1 o2:Option Addr) (c1 c2:Nat) (l:List (Int × Int)) (w:World) (h1:RdG w o1 l) (h2:RdG w o2 l) (hl:l.length≤1048576):
  Calls Tryz.prog 211 #[.slice o1 l.length c1,.slice o2 l.length c2] w fun e w'=> e=.returned (.bool true)∧Below w.heap.size w w':=by
 go_enter Tryz.func211,Tryz.ntmps211
 go_wp2
 go_loopw [5] (fun i wr=> ∃k:Nat,k≤l.length∧i=.int .i64 k∧Below w.heap.size w wr)
  (fun i _=> l.length - (intOf i).toNat)
 case atStart=> exact ⟨0,Nat.zero_le _,rfl,Below.refl _ _⟩
 case round=>
  obtain ⟨k,hk,rfl,hBr⟩:=hrel
  by_cases hlt:k < l.length
  ·rcases h1 with h1|⟨b1,off1,rfl,hb1,hcell1⟩
   ·subst h1;simp at hlt
   rcases h2 with h2|⟨b2,off2,rfl,hb2,hcell2⟩
   ·subst h2;simp at hlt
   have p0:wr.cell? ⟨b1,off1+k * 2,none⟩=some (.int .i64 (l.getD k (0,0)).1):=(hBr.cell (p:=⟨b1,off1+k * 2,none⟩) hb1).trans (hcell1 k hlt).1
   have p1:wr.cell? ⟨b1,off1+k * 2+1,none⟩=some (.int .i64 (l.getD k (0,0)).2):=(hBr.cell (p:=⟨b1,off1+k * 2+1,none⟩) hb1).trans (hcell1 k hlt).2
   have q0:wr.cell? ⟨b2,off2+k * 2,none⟩=some (.int .i64 (l.getD k (0,0)).1):=(hBr.cell (p:=⟨b2,off2+k * 2,none⟩) hb2).trans (hcell2 k hlt).1
   have q1:wr.cell? ⟨b2,off2+k * 2+1,none⟩=some (.int .i64 (l.getD k (0,0)).2):=(hBr.cell (p:=⟨b2,off2+k * 2+1,none⟩) hb2).trans (hcell2 k hlt).2
   have HB:=hide hBr
   have hsr:=hide hBr.size
   clear hcell1 hcell2 hBr
   have i1:(k:Int) < (l.length:Int):=by omega
   generalize (l.getD k (0,0)).1=x at *
   generalize (l.getD k (0,0)).2=y at *
   go_wp2
   go_region_held3 (fun w'=> w'.cell? ⟨b1,off1+k * 2,none⟩=some (.int .i64 x)∧w'.cell? ⟨b1,off1+k * 2+1,none⟩=some (.int .i64 y)∧w'.cell? ⟨b2,off2+k * 2,none⟩=some (.int .i64 x)∧w'.cell? ⟨b2,off2+k * 2+1,none⟩=some (.int .i64 y)) (first|exact ⟨p0,p1,q0,q1⟩) (first|(go_at_call 233;refine (eqSeg_same _ _ _).mono ?_;rintro e w2 ⟨rfl,hb2'⟩;replace hb2':Below wr.heap.size wr w2:=(Below.drew (Below.refl _ _)).trans hb2';have p0:=(hb2'.cell (p:=⟨b1,off1+k * 2,none⟩) (Nat.lt_of_lt_of_le hb1 hsr.out)).trans p0;have p1:=(hb2'.cell (p:=⟨b1,off1+k * 2+1,none⟩) (Nat.lt_of_lt_of_le hb1 hsr.out)).trans p1;have q0:=(hb2'.cell (p:=⟨b2,off2+k * 2,none⟩) (Nat.lt_of_lt_of_le hb2 hsr.out)).trans q0;have q1:=(hb2'.cell (p:=⟨b2,off2+k * 2+1,none⟩) (Nat.lt_of_lt_of_le hb2 hsr.out)).trans q1))
   go_wp2
   go_roundw
   case rel=> exact ⟨k+1,by omega,by go_num,HB.out.trans (hb2'.mono HB.out.size)⟩
   case measure=> simp [intOf];omega
  ·have e:k=l.length:=by omega
   subst e
   go_wp2
   go_ret
   exact ⟨rfl,hBr⟩
abbrev crr (a b f s:Int) (v g:Value) (p t:Int):Value:=.agg #[.int .i64 a,.int .i64 b,.int .i64 f,.int .i64 s,v,g,.int .i64 p,.int .i64 t]
theorem cellsLawsCarrier:Tryz.prog.cellsOf 157=8:=by kernel_rfl
theorem cellsLawsSegs:Tryz.prog.cellsOf 155=1:=by kernel_rfl
theorem szCarrier_any (a b f s:Int) (o og:Option Addr) (len cap lg cg:Nat) (pl st:Int) (n:Int) (w:World) (hl:len≤maxLen) (hg:lg≤maxLen) (h0:0≤n) (h1:n≤1048576):
  Calls Tryz.prog 144 #[crr a b f s (.slice o len cap) (.slice og lg cg) pl st,.int .i64 n] w fun e w'=> e=.returned (.int .i64 (if n - len - lg < 0 then -1 else n - len - lg))∧Below w.heap.size w w':=by
 have hB:Below w.heap.size w w:=Below.refl _ _
 have hs:=fun w=> szPacket_any a b f s o len cap n w hl h0 h1
 by_cases h:n - len < 0
 ·rw [if_pos h] at hs
  rw [if_pos (by omega)]
  go_enter Tryz.func144,Tryz.ntmps144
  go_wp2_with (first|(go_at_call 188;refine (hs _).mono ?_;rintro e w1a ⟨rfl,hba⟩;obtain ⟨hca,hfa⟩:=bcell hba;have hz0a:w.heap.size < w1a.heap.size:=(by have hz:=hba.size;(try simp at hz);omega);have hB:Below w.heap.size w w1a:=(by refine Below.trans ?_ (hba.mono (by have hs:=hB.size;(try simp) <;> omega));(repeat (first|with_reducible (first|exact hB|exact Below.refl _ _|refine Below.drew ?_|refine below_drewN ?_ _|refine Below.alloc ?_ ?_ _|refine Below.setCell ?_ ?_ _)|(focus (simp;first|done|omega))|omega)))))
  go_ret
  exact ⟨rfl,by (repeat (first|with_reducible (first|exact hB|exact Below.refl _ _|refine Below.drew ?_|refine below_drewN ?_ _|refine Below.alloc ?_ ?_ _|refine Below.setCell ?_ ?_ _)|(focus (simp;first|done|omega))|omega))⟩
 ·rw [if_neg h] at hs
  have ht:=fun w=> szSegS_any og lg cg (n - len) w hg (by omega) (by omega)
  by_cases h2:n - len - lg < 0
  ·rw [if_pos h2] at ht
   rw [if_pos h2]
   go_enter Tryz.func144,Tryz.ntmps144
   go_wp2_with (first|(go_at_call 188;refine (hs _).mono ?_;rintro e w1a ⟨rfl,hba⟩;obtain ⟨hca,hfa⟩:=bcell hba;have hz0a:w.heap.size < w1a.heap.size:=(by have hz:=hba.size;(try simp at hz);omega);have hB:Below w.heap.size w w1a:=(by refine Below.trans ?_ (hba.mono (by have hs:=hB.size;(try simp) <;> omega));(repeat (first|with_reducible (first|exact hB|exact Below.refl _ _|refine Below.drew ?_|refine below_drewN ?_ _|refine Below.alloc ?_ ?_ _|refine Below.setCell ?_ ?_ _)|(focus (simp;first|done|omega))|omega))))|(go_at_call 189;refine (ht _).mono ?_;rintro e w2 ⟨rfl,rfl⟩))
   go_ret
   exact ⟨rfl,by (repeat (first|with_reducible (first|exact hB|exact Below.refl _ _|refine Below.drew ?_|refine below_drewN ?_ _|refine Below.alloc ?_ ?_ _|refine Below.setCell ?_ ?_ _)|(focus (simp;first|done|omega))|omega))⟩
  ·rw [if_neg h2] at ht
   rw [if_neg h2]
   go_enter Tryz.func144,Tryz.ntmps144
   go_wp2_with (first|(go_at_call 188;refine (hs _).mono ?_;rintro e w1a ⟨rfl,hba⟩;obtain ⟨hca,hfa⟩:=bcell hba;have hz0a:w.heap.size < w1a.heap.size:=(by have hz:=hba.size;(try simp at hz);omega);have hB:Below w.heap.size w w1a:=(by refine Below.trans ?_ (hba.mono (by have hs:=hB.size;(try simp) <;> omega));(repeat (first|with_reducible (first|exact hB|exact Below.refl _ _|refine Below.drew ?_|refine below_drewN ?_ _|refine Below.alloc ?_ ?_ _|refine Below.setCell ?_ ?_ _)|(focus (simp;first|done|omega))|omega))))|(go_at_call 189;refine (ht _).mono ?_;rintro e w2 ⟨rfl,rfl⟩))
   go_ret
   exact ⟨rfl,by (repeat (first|with_reducible (first|exact hB|exact Below.refl _ _|refine Below.drew ?_|refine below_drewN ?_ _|refine Below.alloc ?_ ?_ _|refine Below.setCell ?_ ?_ _)|(focus (simp;first|done|omega))|omega))⟩
theorem toCarrier_any (a b f s:Int) (o og:Option Addr) (cap cg:Nat) (l:List Int) (g:List (Int × Int)) (pl st:Int) (w:World) (hR:Rd w o l) (hB8:isB l) (hlen:l.length≤1048576) (hG:RdG w og g) (hgl:g.length≤1048576):
  Calls Tryz.prog 156 #[crr a b f s (.slice o l.length cap) (.slice og g.length cg) pl st] w fun e w'=> ∃k kg,e=.returned (crr a b f s (.slice (some ⟨k,0,none⟩) l.length l.length) (.slice (some ⟨kg,0,none⟩) g.length g.length) pl st)∧ownB w' w.heap.size (.slice (some ⟨k,0,none⟩) l.length l.length) l∧ownG w' w.heap.size (.slice (some ⟨kg,0,none⟩) g.length g.length) g∧k < kg∧Below w.heap.size w w':=by
 have hB:Below w.heap.size w w:=Below.refl _ _
 go_enter Tryz.func156,Tryz.ntmps156
 go_wp2_with (first|(go_at_call 197;refine (toPacket_any a b f s o cap l _ (hR.kept (by (repeat (first|with_reducible (first|exact hB|exact Below.refl _ _|refine Below.drew ?_|refine below_drewN ?_ _|refine Below.alloc ?_ ?_ _|refine Below.setCell ?_ ?_ _)|(focus (simp;first|done|omega))|omega)))) hB8 hlen).mono ?_;rintro e w1a ⟨k,rfl,hown,hba⟩;obtain ⟨hca,hfa⟩:=bcell hba;have hz0a:w.heap.size < w1a.heap.size:=(by have hz:=hba.size;(try simp at hz);omega);have hz1a:w.heap.size+1 < w1a.heap.size:=(by have hz:=hba.size;(try simp at hz);omega);have hz2a:w.heap.size+1+1 < w1a.heap.size:=(by have hz:=hba.size;(try simp at hz);omega);have hB:Below w.heap.size w w1a:=(by refine Below.trans ?_ (hba.mono (by have hs:=hB.size;(try simp) <;> omega));(repeat (first|with_reducible (first|exact hB|exact Below.refl _ _|refine Below.drew ?_|refine below_drewN ?_ _|refine Below.alloc ?_ ?_ _|refine Below.setCell ?_ ?_ _)|(focus (simp;first|done|omega))|omega))))|(go_at_call 198;refine (toSegS_any og cg g _ (hG.kept (by (repeat (first|with_reducible (first|exact hB|exact Below.refl _ _|refine Below.drew ?_|refine below_drewN ?_ _|refine Below.alloc ?_ ?_ _|refine Below.setCell ?_ ?_ _)|(focus (simp;first|done|omega))|omega)))) hgl).mono ?_;rintro e w1b ⟨kg,rfl,howg,hbb⟩;obtain ⟨hcb,hfb⟩:=bcell hbb;have hz0b:w.heap.size < w1b.heap.size:=(by have hz:=hbb.size;(try simp at hz);omega);have hz1b:w.heap.size+1 < w1b.heap.size:=(by have hz:=hbb.size;(try simp at hz);omega);have hz2b:w.heap.size+1+1 < w1b.heap.size:=(by have hz:=hbb.size;(try simp at hz);omega);have hB:Below w.heap.size w w1b:=(by refine Below.trans ?_ (hbb.mono (by have hs:=hB.size;(try simp) <;> omega));(repeat (first|with_reducible (first|exact hB|exact Below.refl _ _|refine Below.drew ?_|refine below_drewN ?_ _|refine Below.alloc ?_ ?_ _|refine Below.setCell ?_ ?_ _)|(focus (simp;first|done|omega))|omega)))))
 have h1:ownB w1a (w.heap.size+1+1+1) (.slice (some ⟨k,0,none⟩) l.length l.length) l:=by simpa using hown
 have hk:k < w1a.heap.size:=(h1.lt k rfl).2
 have h2:ownG w1b w1a.heap.size (.slice (some ⟨kg,0,none⟩) g.length g.length) g:=by simpa using howg
 have hkg:w1a.heap.size≤kg:=(h2.lt kg rfl).1
 have h3:ownB w1b (w.heap.size+1+1+1) (.slice (some ⟨k,0,none⟩) l.length l.length) l:=by
  refine own_kept ?_ hbb
  repeat (refine ownsRow_setCell_below ?_ (by simp <;> omega) _)
  exact h1
 clear hown howg hba hbb h1
 refine bodyPost_ret (v:=crr a b f s (.slice (some ⟨k,0,none⟩) l.length l.length) (.slice (some ⟨kg,0,none⟩) g.length g.length) pl st) (by simp [results,Tryz.results156,go_sem,hcb,hca,hz0a,hz1a,hz2a,hz0b,hz1b,hz2b]) rfl ⟨k,kg,rfl, ?_, ?_, ?_, ?_⟩
 ·refine own_mono (base:=w.heap.size+1+1+1) ?_ (by omega)
  repeat (refine ownsRow_setCell_below ?_ (by simp <;> omega) _)
  exact h3
 ·refine own_mono (base:=w1a.heap.size) ?_ (Nat.le_of_lt hz0a)
  repeat (refine ownsRow_setCell_below ?_ (by simp <;> omega) _)
  exact h2
 ·omega
 ·(repeat (first|with_reducible (first|exact hB|exact Below.refl _ _|refine Below.drew ?_|refine below_drewN ?_ _|refine Below.alloc ?_ ?_ _|refine Below.setCell ?_ ?_ _)|(focus (simp;first|done|omega))|omega))
theorem eqCarrier_same (a b f s:Int) (o1 o2 p1 p2:Option Addr) (c1 c2 d1 d2:Nat) (l:List Int) (g:List (Int × Int)) (pl st:Int) (w:World) (h1:Rd w o1 l) (h2:Rd w o2 l) (hl:l.length≤1048576) (g1:RdG w p1 g) (g2:RdG w p2 g) (hg:g.length≤1048576):
  Calls Tryz.prog 168 #[crr a b f s (.slice o1 l.length c1) (.slice p1 g.length d1) pl st,crr a b f s (.slice o2 l.length c2) (.slice p2 g.length d2) pl st] w fun e w'=> e=.returned (.bool true)∧Below w.heap.size w w':=by
 have hB:Below w.heap.size w w:=Below.refl _ _
 go_enter Tryz.func168,Tryz.ntmps168
 go_wp2_with (first|(go_at_call 210;refine (eqPacket_same a b f s o1 o2 c1 c2 l _ (h1.kept (by (repeat (first|with_reducible (first|exact hB|exact Below.refl _ _|refine Below.drew ?_|refine below_drewN ?_ _|refine Below.alloc ?_ ?_ _|refine Below.setCell ?_ ?_ _)|(focus (simp;first|done|omega))|omega)))) (h2.kept (by (repeat (first|with_reducible (first|exact hB|exact Below.refl _ _|refine Below.drew ?_|refine below_drewN ?_ _|refine Below.alloc ?_ ?_ _|refine Below.setCell ?_ ?_ _)|(focus (simp;first|done|omega))|omega)))) hl).mono ?_;rintro e w1a ⟨rfl,hba⟩;obtain ⟨hca,hfa⟩:=bcell hba;have hz0a:w.heap.size < w1a.heap.size:=(by have hz:=hba.size;(try simp at hz);omega);have hz1a:w.heap.size+1 < w1a.heap.size:=(by have hz:=hba.size;(try simp at hz);omega);have hB:Below w.heap.size w w1a:=(by refine Below.trans ?_ (hba.mono (by have hs:=hB.size;(try simp) <;> omega));(repeat (first|with_reducible (first|exact hB|exact Below.refl _ _|refine Below.drew ?_|refine below_drewN ?_ _|refine Below.alloc ?_ ?_ _|refine Below.setCell ?_ ?_ _)|(focus (simp;first|done|omega))|omega))))|(go_at_call 211;refine (eqSegS_same p1 p2 d1 d2 g _ (g1.kept (by (repeat (first|with_reducible (first|exact hB|exact Below.refl _ _|refine Below.drew ?_|refine below_drewN ?_ _|refine Below.alloc ?_ ?_ _|refine Below.setCell ?_ ?_ _)|(focus (simp;first|done|omega))|omega)))) (g2.kept (by (repeat (first|with_reducible (first|exact hB|exact Below.refl _ _|refine Below.drew ?_|refine below_drewN ?_ _|refine Below.alloc ?_ ?_ _|refine Below.setCell ?_ ?_ _)|(focus (simp;first|done|omega))|omega)))) hg).mono ?_;rintro e w1b ⟨rfl,hbb⟩;obtain ⟨hcb,hfb⟩:=bcell hbb;have hz0b:w.heap.size < w1b.heap.size:=(by have hz:=hbb.size;(try simp at hz);omega);have hz1b:w.heap.size+1 < w1b.heap.size:=(by have hz:=hbb.size;(try simp at hz);omega);have hB:Below w.heap.size w w1b:=(by refine Below.trans ?_ (hbb.mono (by have hs:=hB.size;(try simp) <;> omega));(repeat (first|with_reducible (first|exact hB|exact Below.refl _ _|refine Below.drew ?_|refine below_drewN ?_ _|refine Below.alloc ?_ ?_ _|refine Below.setCell ?_ ?_ _)|(focus (simp;first|done|omega))|omega)))))
 go_ret
 exact ⟨rfl,by (repeat (first|with_reducible (first|exact hB|exact Below.refl _ _|refine Below.drew ?_|refine below_drewN ?_ _|refine Below.alloc ?_ ?_ _|refine Below.setCell ?_ ?_ _)|(focus (simp;first|done|omega))|omega))⟩
end Go.Proofs.YtgplppfbinfelaaGreat
