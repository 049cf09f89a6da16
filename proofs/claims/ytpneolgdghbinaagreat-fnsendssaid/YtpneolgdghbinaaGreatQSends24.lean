/- The library's Insert of one at rows of backs. -/
import Derived.Lib.Overlaps
import Derived.Laws.CopyRow
import Derived.Laws.Externs
import Derived.Shelf.Spec.SlicesInsert
import Derived.Test.YtpneolgdghbinaaGreatQSends23
namespace Go.Proofs.YtpneolgdghbinaaGreat
open Go.ChangeShapes Go.WideShapes Go.ChangeAt Go.RowKit Go.Joins
set_option linter.unusedVariables false
set_option linter.unusedSimpArgs false
set_option maxRecDepth 100000
set_option maxHeartbeats 40000000
theorem Qcr (base cap gx:Nat) (o:Option Addr) (l:List Bk) (b:Bk) (w:World) (hv:Q1i w base (.slice o l.length cap) l) (hx:RdK w.heap.size w (some ⟨gx,0,none⟩) [b]) (hb:base≤w.heap.size) (hl:l.length≤1000):
  Calls Tryz.prog 160 #[.slice o l.length cap,.int .i64 l.length,.slice (some ⟨gx,0,none⟩) 1 1] w fun e w'=> ∃v,e=.returned v∧Q1i w' base v (l++[b])∧w.grownBy w' (Value.ownBlock (.slice o l.length cap)):=by
 have hcap:l.length≤cap:=by
  rcases hv.2 with ⟨h1,_⟩|⟨g',c',cur,h1,_,_,h4,_⟩
  ·injection h1 with _ h2 h3;omega
  ·injection h1 with _ _ h3;omega
 have HV:=Q02 hv;have HX:=Q02 hx;clear hv hx;generalize hn:l.length=n at *;have HN:=Q02 hn;clear hn
 have z0:((n:Int)==(n:Int))=true:=by simp
 go_enter Tryz.func160,Tryz.ntmps160
 go_wp2_with (at_builtin;refine Q07 Q3v rfl _ _ rfl base _ l rfl HV.out (some ⟨gx,0,none⟩) 1 w.heap.size [b] 1 rfl rfl (fun h=> by cases h) HX.out ?c1 hb ?_)
 all_goals (try (case c1=> (have:=HN.out;simp;omega)))
 all_goals (
  intro v8 w8 hv8 hg8 _
  have HR:=Q02 (And.intro hv8 hg8);clear hv8 hg8
  go_wp2)
 all_goals go_ret
 all_goals exact ⟨_,rfl,HR.out.1,by have h:=HR.out.2;cases o <;> exact h⟩
theorem Q2m {P:Program} (size:Nat) (w:World) (dT sT ty elem:TypeId) (g o dLen dCap:Nat) (a:Addr) (sLen sCap:Nat) (cur:Array Value) (t:TypeId) (cs:List Value)
  (hu:P.underlying dT=some (.slice elem)) (hs:(P.info? elem).map (·.size)=some size)
  (hg:w.heap[g]? =some (.cells cur t (0,0))) (hn:cs.length=Nat.min sLen dLen * size)
  (hsrc:∀j v,cs[j]? =some v→w.cell? (a.add j)=some v) (hfit:o+cs.length≤cur.size) (h1:∀v∈cs,v.oneCell'=true):
  (Builtin.copy_ #[dT,sT] ty #[.slice (some ⟨g,o,none⟩) dLen dCap,.slice (some a) sLen sCap]).run P w=
   .ok (goInt (Nat.min sLen dLen)) (w.setRow g (cur.toList.take o++cs++cur.toList.drop (o+cs.length)).toArray):=by
 have hl:=run_loadCells_list (P:=P) w a cs hsrc
 have hst:=run_storeCells_at (P:=P) g o t cs 0 cur w hg (by simpa using hfit) h1
 cases hq:P.info? elem with
 |none=> simp [hq] at hs
 |some i=>
  have hi:i.size=size:=by simpa [hq] using hs
  rw [hn] at hl
  simp [Builtin.copy_,run_underlying hu,Builtin.lenOf,Builtin.firstCells,sizeOf,typeInfo,hq,hi,hl,hst]
theorem Q9V {X cs cur:List Value} {i n k:Nat} (hX:cur.take (n * k)=X) (hi:i≤n) (hc:cs.length=k) (hlen:(n+1) * k≤cur.length):
  let c1:=cur.take ((i+1) * k)++X.drop (i * k)++cur.drop ((i+1) * k+(X.drop (i * k)).length)
  (c1.take (i * k)++cs++c1.drop (i * k+cs.length)).take ((n+1) * k)=X.take (i * k)++cs++X.drop (i * k)∧(c1.take (i * k)++cs++c1.drop (i * k+cs.length)).length=cur.length:=by
 intro c1
 have hk1:(i+1) * k=i * k+k:=Nat.succ_mul i k;have hn1:(n+1) * k=n * k+k:=Nat.succ_mul n k;have hik:i * k≤n * k:=Nat.mul_le_mul_right k hi
 have hXl:X.length=n * k:=by rw [←hX,List.length_take];omega
 have hA:(cur.take ((i+1) * k)).length=(i+1) * k:=by rw [List.length_take];omega
 have hD:(X.drop (i * k)).length=n * k - i * k:=by rw [List.length_drop,hXl]
 have hT:(X.take (i * k)).length=i * k:=by rw [List.length_take];omega
 have t1:c1.take (i * k)=X.take (i * k):=by
  show (cur.take ((i+1) * k)++X.drop (i * k)++cur.drop ((i+1) * k+(X.drop (i * k)).length)).take (i * k)=_
  rw [List.append_assoc,List.take_append_of_le_length (by omega),List.take_take,Nat.min_eq_left (by omega)]
  conv=> rhs;rw [←hX]
  rw [List.take_take,Nat.min_eq_left hik]
 have t2:c1.drop (i * k+cs.length)=X.drop (i * k)++cur.drop ((i+1) * k+(X.drop (i * k)).length):=by
  show (cur.take ((i+1) * k)++X.drop (i * k)++cur.drop ((i+1) * k+(X.drop (i * k)).length)).drop (i * k+cs.length)=_
  rw [hc,←hk1,List.append_assoc]
  exact List.drop_left' hA
 rw [t1,t2]
 constructor
 ·rw [←List.append_assoc]
  exact List.take_left' (by rw [List.length_append,List.length_append];omega)
 ·simp only [List.length_append,List.length_drop] at *
  omega
theorem Q9l (base g cap gx i:Nat) (l:List Bk) (b:Bk) (w:World) (hv:Q1i w base (.slice (some ⟨g,0,none⟩) l.length cap) l) (hx:w.heap[gx]? =some (.cells (Q12.cs b).toArray 119 (0,0))) (hgx:gx≠g) (hi:i < l.length) (hroom:l.length+1≤cap) (hl:l.length≤1000):
  Calls Tryz.prog 160 #[.slice (some ⟨g,0,none⟩) l.length cap,.int .i64 i,.slice (some ⟨gx,0,none⟩) 1 1] w fun e w'=> ∃v,e=.returned v∧Q1i w' base v (l.take i++b::l.drop i)∧w.grownBy w' (some g):=by
 rcases hv.2 with ⟨h1,_⟩|⟨g',c',cur,h1,hb,hc,h4,h5,h6,h7⟩
 ·cases h1
 injection h1 with h1 _ h3
 injection h1 with h1
 injection h1 with h1 _ _
 subst h1 h3
 have hsa:w.shape? gx=some (119,3):=by simp [World.shape?,hx,Q12]
 have hsb:w.shape? g=some (119,cap * 3):=by simp [World.shape?,hc];exact h6
 have hfx:∀q,w.frozen? ⟨gx,q,none⟩=false:=fun q=> by simp [World.frozen?,hx]
 have hov:∀lb cb,(callFunc 181 #[.slice (some ⟨gx,0,none⟩) 1 1,.slice (some ⟨g,(i+1) * 3,none⟩) lb cb]).run Tryz.prog w=.ok (.value (.bool false)) w:=fun lb cb=> by
  rw [run_callFunc_extern Tryz.func181 (by kernel_rfl) (by kernel_rfl) (by kernel_rfl) (e:=Extern.SlicesOverlaps.overlaps #[26,26] #[4]) (by kernel_rfl),
   Lib.run_overlaps_apart w 26 4 119 Tryz.underlying26 3 (fun w=> by kernel_rfl) ⟨gx,0,none⟩ ⟨g,(i+1) * 3,none⟩ 1 1 lb cb hgx _ _ _ _ hsa hsb (by omega) (hfx _) (hfx _)]
  rfl
 clear hsa hsb hfx;obtain ⟨X,hX⟩:∃X,X=l.flatMap Q12.cs:=⟨_,rfl⟩
 have h7':cur.toList.take (l.length * 3)=X:=by rw [hX];exact h7
 have hXl:X.length=l.length * 3:=by rw [hX,Q0s];rfl
 have hX1:∀v∈X,v.oneCell'=true:=by rw [hX];exact Q5k Q3v.one l
 have hb1:∀v∈Q12.cs b,v.oneCell'=true:=fun v hv=> Q3v.one b v hv
 have hD:(X.drop (i * 3)).length=(l.length - i) * 3:=by rw [List.length_drop,hXl];omega
 have hcs:cur.toList.length=cap * 3:=by rw [Array.length_toList];exact h6
 have HS:=Q02 (Q9V (cs:=Q12.cs b) (i:=i) (n:=l.length) (k:=3) h7' (Nat.le_of_lt hi) rfl (by omega))
 dsimp only at HS
 obtain ⟨C1,hC1⟩:∃C1,C1=cur.toList.take ((i+1) * 3)++X.drop (i * 3)++cur.toList.drop ((i+1) * 3+(X.drop (i * 3)).length):=⟨_,rfl⟩
 have hC1l:C1.length=cap * 3:=by
  rw [hC1];simp only [List.length_append,List.length_take,List.length_drop] at *;omega
 rw [←hC1] at HS
 obtain ⟨W1,hW1⟩:∃W1,W1=w.drew.setRow g C1.toArray:=⟨_,rfl⟩
 have hcp1:∀ty dL dc sL sc,dL=l.length - i→sL=l.length+1 - i→(Builtin.copy_ #[26,26] ty #[.slice (some ⟨g,(i+1) * 3,none⟩) dL dc,.slice (some ⟨g,i * 3,none⟩) sL sc]).run Tryz.prog w.drew=.ok (goInt (Nat.min sL dL)) W1:=fun ty dL dc sL sc e1 e2=> by
  have h:=Q2m (P:=Tryz.prog) 3 w.drew 26 26 ty 119 g ((i+1) * 3) dL dc ⟨g,i * 3,none⟩ sL sc cur 119 (X.drop (i * 3)) Tryz.underlying26 (by kernel_rfl) hc (by rw [hD,show Nat.min sL dL=l.length - i by show min sL dL=_;omega])
   (fun j v hj=> by
    rw [List.getElem?_drop,←h7',List.getElem?_take] at hj
    split at hj
    ·rw [Addr.add_lit];show w.cell? ⟨g,i * 3+j,none⟩=some v;simpa [World.cell?,hc] using hj
    ·cases hj) (by rw [hD];rw [Array.length_toList] at hcs;omega) (fun v hv=> hX1 v (List.mem_of_mem_drop hv))
  rw [h,hW1,hC1]
 have hc1:W1.heap[g]? =some (.cells C1.toArray 119 (0,0)):=by rw [hW1];exact setRow_heap w.drew g cur _ 119 _ hc
 have hx1:W1.heap[gx]? =some (.cells (Q12.cs b).toArray 119 (0,0)):=by rw [hW1,setRow_other w.drew g gx _ hgx];exact hx
 have hcp2:∀(W:World),W.heap=W1.heap→∀ty dL dc,1≤dL→(Builtin.copy_ #[26,26] ty #[.slice (some ⟨g,i * 3,none⟩) dL dc,.slice (some ⟨gx,0,none⟩) 1 1]).run Tryz.prog W=.ok (goInt (Nat.min 1 dL)) (W.setRow g (C1.take (i * 3)++Q12.cs b++C1.drop (i * 3+(Q12.cs b).length)).toArray):=fun W hW ty dL dc e1=> by
  have h:=Q2m (P:=Tryz.prog) 3 W 26 26 ty 119 g (i * 3) dL dc ⟨gx,0,none⟩ 1 1 C1.toArray 119 (Q12.cs b) Tryz.underlying26 (by kernel_rfl) (by rw [hW];exact hc1) (by rw [show Nat.min 1 dL=1 by show min 1 dL=_;omega];rfl)
   (fun j v hj=> by
    rw [Addr.add_lit]
    simpa [World.cell?,hW,hx1] using hj) (by simp only [List.size_toArray,hC1l];show i * 3+3≤cap * 3;omega) hb1
  exact h
 have HW1:=Q02 hW1;have HH:=Q02 (And.intro hc hb);have HX:=Q02 hX;have hw1h:Hid (W1.heap[g]? =some (.cells C1.toArray 119 (0,0))):=Q02 hc1;have H6:=Q02 h6;have H5:=Q02 h5;have HC1:=Q02 hC1l;clear hv hx hc hx1 hc1 hX hW1 hC1 h7 h7' hXl hX1 hb1 hD hcs h6 hC1l;generalize hn:l.length=n at *;have HN:=Q02 hn;clear hn
 have z0:((i:Int)==(n:Int))=false:=by simp;omega
 have z1:¬((cap:Int) < (n:Int)+1):=by omega
 have z2:(n:Int)+1≤(cap:Int):=by omega
 have n0:n+1≤cap:=hroom
 have n1:i≤n:=by omega
 have n2:i+1≤n+1:=by omega
 have n3:¬(cap=i):=by omega
 have n4:¬(cap=i+1):=by omega
 have z3:(i:Int)+1≤(n:Int)+1:=by omega
 have z4:(i:Int)≤(n:Int):=by omega
 have hcm:cap≤9223372036854775807:=by unfold maxLen at h5;omega
 have hw1:IntKind.i64.wrap ((i:Int)+1)=(i:Int)+1:=by rw [IntKind.wrap_i64];omega
 have hw2:(0:Int)≤(i:Int)+1:=by omega
 have z5:(i:Int)≤(n:Int)+1:=by omega
 have hw3:((i:Int)+1).toNat=i+1:=by omega
 have CP1:=Q02 hcp1;have CP2:=Q02 hcp2;clear hcp1 hcp2 h5
 go_enter Tryz.func160,Tryz.ntmps160
 go_wp2_with (simp only [hov])
 go_region_law (refine step_copy_runI rfl _ _ 26 26 rfl (.slice (some ⟨g,(i+1) * 3,none⟩) (n - i) (cap - (i+1))) (.slice (some ⟨g,i * 3,none⟩) (n+1 - i) (cap - i)) (by simp [Act.eval,Act.put]) (by simp [Act.eval,Act.put]) (CP1.out _ _ _ _ _ rfl rfl) ?_)
 have e3:1≤n+1 - i:=by omega
 obtain ⟨W2,hW2⟩:∃W2,W2=W1.setRow g (C1.take (i * 3)++Q12.cs b++C1.drop (i * 3+(Q12.cs b).length)).toArray:=⟨_,rfl⟩;have hcp3:=CP2.out W1 rfl 3 (n+1 - i) (cap - i) e3
 rw [←hW2] at hcp3
 have HW2:=Q02 hW2;clear e3 hW2
 go_wp2
 go_ret
 have hW2:=HW2.out;subst hW2
 refine ⟨_,rfl, ?_, ?_⟩
 ·have hs:=HS.out
  have hlen:(l.take i++b::l.drop i).length=n+1:=by have:=HN.out;simp;omega
  have hC:=HC1.out
  refine ⟨by rw [Q0s],.inr ⟨g,cap,_,by rw [hlen];rfl,HH.out.2,setRow_heap W1 g C1.toArray _ 119 _ hw1h.out,by rw [hlen];omega,H5.out, ?_, ?_⟩⟩
  ·have h2:=hs.2
   have h6:=H6.out
   rw [Array.length_toList] at h2
   rw [List.size_toArray]
   exact h2.trans h6
  ·rw [hlen]
   show List.take ((n+1) * 3) _=_
   rw [hs.1,HX.out,List.flatMap_append,List.flatMap_cons,List.append_assoc]
   have e2:l.flatMap Q12.cs=(l.take i).flatMap Q12.cs++(l.drop i).flatMap Q12.cs:=by rw [←List.flatMap_append,List.take_append_drop]
   have e4:((l.take i).flatMap Q12.cs).length=i * 3:=by rw [Q0s,List.length_take,HN.out,Nat.min_eq_left n1];rfl
   rw [e2,List.take_left' e4,List.drop_left' e4]
 ·have h:=HW1.out
  have g1:w.grownBy W1 (some g):=by rw [h];exact ⟨rfl,rfl,rfl,by simp,fun k _ hk=> setRow_other w.drew g k _ (fun e=> hk (by simp [e]))⟩
  exact g1.trans ⟨rfl,rfl,rfl,by simp,fun k _ hk=> setRow_other W1 g k _ (fun e=> hk (by simp [e]))⟩
end Go.Proofs.YtpneolgdghbinaaGreat
