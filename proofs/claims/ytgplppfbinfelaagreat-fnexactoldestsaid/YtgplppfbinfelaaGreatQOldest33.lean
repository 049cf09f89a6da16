/- Several texts in one: SPlace, JMath, DoMath, STab3, SDelete, SDeed. -/
import Derived.Test.YtgplppfbinfelaaGreatQOldest26
import Derived.Test.YtgplppfbinfelaaGreatQOldest18
namespace Go.Proofs.YtgplppfbinfelaaGreat
open Go.ChangeShapes Go.WideShapes Go.ChangeAt Go.RowKit Go.Joins
set_option linter.unusedVariables false
set_option linter.unusedSimpArgs false
set_option maxRecDepth 100000
set_option maxHeartbeats 40000000
theorem appK0:AppOk layK 44 226:=⟨Tryz.underlying44,⟨_,_,infoBack,rfl,by decide⟩,by decide,fun a u hu=> by
 simp [layK] at hu;rcases hu with rfl|rfl|rfl <;> rfl⟩
theorem appC0:AppOk layC 41 221:=⟨Tryz.underlying41,⟨_,_,infoCmd,rfl,by decide⟩,by decide,fun a u hu=> by
 simp [layC] at hu;rcases hu with rfl|rfl|rfl <;> rfl⟩
theorem cloneBacks_any (o:Option Addr) (cap:Nat) (l:List Bk) (w:World) (hR:RdK w.heap.size w o l) (hn:o=none→cap=0) (hl:l.length≤1048576):
  Calls Tryz.prog 213 #[.slice o l.length cap] w fun e w'=> ∃v,e=.returned v∧ownK w' w.heap.size v l∧Below w.heap.size w w':=by
 go_enter Tryz.func213,Tryz.ntmps213
 go_wp2_with (at_builtin;refine wpList_append_lay appK0 rfl _ _ rfl w.heap.size (.slice none 0 0) [] rfl (World.ownsRow_nil _ _ _ _) o cap w.heap.size l l.length rfl rfl hn hR ?c1 (Nat.le_refl _) ?_)
 case c1=> simp;omega
 intro v w1 hv hg _
 have HR:=hide (show ownK w1 w.heap.size v l∧Below w.heap.size w w1 from ⟨hv,(Below.refl _ _).grown hg (Nat.le_refl _) (fun k h=> by cases h)⟩)
 clear hv hg
 go_wp2
 go_ret
 exact ⟨_,rfl,HR.out.1,HR.out.2⟩
theorem cloneCmds_any (o:Option Addr) (cap:Nat) (l:List Cd) (w:World) (hR:RdC w.heap.size w o l) (hn:o=none→cap=0) (hl:l.length≤1048576):
  Calls Tryz.prog 204 #[.slice o l.length cap] w fun e w'=> ∃v,e=.returned v∧ownC w' w.heap.size v l∧Below w.heap.size w w':=by
 go_enter Tryz.func204,Tryz.ntmps204
 go_wp2_with (at_builtin;refine wpList_append_lay appC0 rfl _ _ rfl w.heap.size (.slice none 0 0) [] rfl (World.ownsRow_nil _ _ _ _) o cap w.heap.size l l.length rfl rfl hn hR ?c1 (Nat.le_refl _) ?_)
 case c1=> simp;omega
 intro v w1 hv hg _
 have HR:=hide (show ownC w1 w.heap.size v l∧Below w.heap.size w w1 from ⟨hv,(Below.refl _ _).grown hg (Nat.le_refl _) (fun k h=> by cases h)⟩)
 clear hv hg
 go_wp2
 go_ret
 exact ⟨_,rfl,HR.out.1,HR.out.2⟩
theorem there_at {l:List Bk} (h:backsOkB l=true) {id:Int} {k:Nat} (hk:k < l.length) (e:(l.getD k (0,0,false)).1=id):placeN l id=k∧thereB l id=true:=by
 have hp:placeN l id=k:=placeN_eq (Nat.le_of_lt hk) (fun j hj=> by rw [←e];exact backs_lt h k hk j hj) (.inr (by rw [e];exact Int.lt_irrefl _))
 exact ⟨hp,by unfold thereB;rw [hp,e];simp [hk]⟩
theorem there_no {l:List Bk} {id:Int} (h:∀k,k < l.length→(l.getD k (0,0,false)).1≠id):thereB l id=false:=by
 unfold thereB
 by_cases hp:placeN l id < l.length
 ·have:=h _ hp
  rw [show ((l.getD (placeN l id) (0,0,false)).1==id)=false from beq_eq_false_iff_ne.2 this,Bool.and_false]
 ·simp [hp]
def findI (l:List Bk) (id:Int):Int:=if thereB l id then (placeN l id:Int) else -1
theorem l4find_any (o:Option Addr) (cap:Nat) (l:List Bk) (id:Int) (w:World) (hR:RdK w.heap.size w o l) (hl:l.length≤1048576) (hok:backsOkB l=true):
  Calls Tryz.prog 191 #[.slice o l.length cap,.int .i64 id] w fun e w'=> e=.returned (.int .i64 (findI l id))∧w=w':=by
 go_enter Tryz.func191,Tryz.ntmps191
 go_wp2
 go_loop [5] (fun av=> ∃k:Nat,k≤l.length∧av=.int .i64 k∧Hid (∀j,j < k→(l.getD j (0,0,false)).1≠id))
  (fun av=> l.length - (intOf av).toNat)
 case atStart=> exact ⟨0,Nat.zero_le _,rfl,fun j hj=> absurd hj (Nat.not_lt_zero _)⟩
 case round=>
  obtain ⟨k,hk,rfl,HJ⟩:=hrel
  by_cases hlt:k < l.length
  ·rcases hR with hR|⟨b,off,rfl,hbl,hcell⟩
   ·subst hR;simp at hlt
   obtain ⟨x,y,z,hxy⟩:∃x y z,l.getD k (0,0,false)=(x,y,z):=⟨_,_,_,rfl⟩
   have hcx:=(RdL.back (C:=w.heap.size) hcell k hlt).1
   rw [hxy] at hcx
   dsimp only at hcx
   have z1:(k:Int) < (l.length:Int):=by omega
   by_cases hx:x=id
   ·have ht:=there_at (id:=id) hok hlt ((congrArg (fun q=> q.1) hxy).trans hx)
    have HF:=hide (show findI l id=(k:Int) by unfold findI;rw [ht.2,ht.1];rfl)
    have hx':(x==id)=true:=by simpa using hx
    clear hxy hcell ht HJ hx
    go_wp2
    go_ret
    exact ⟨by rw [HF.out];rfl,rfl⟩
   ·have HJ2:Hid (∀j,j < k+1→(l.getD j (0,0,false)).1≠id):=fun j hj=> by
     rcases Nat.lt_succ_iff_lt_or_eq.1 hj with h|h
     ·exact HJ.out j h
     ·rw [h,hxy];exact hx
    have hx':(x==id)=false:=by simpa using hx
    clear hxy hcell hx
    go_wp2
    go_round
    case rel=> exact ⟨k+1,by omega,by go_num,HJ2⟩
    case measure=> simp [intOf];omega
  ·have e:k=l.length:=by omega
   have HF:=hide (show findI l id= -1 by unfold findI;rw [there_no (e ▸ HJ.out)];rfl)
   subst e
   clear HJ
   go_wp2
   go_ret
   exact ⟨by rw [HF.out];rfl,rfl⟩
theorem getD_mem {α:Type} {l:List α} {d b:α} (h:b∈l):∃k,k < l.length∧l.getD k d=b:=by
 obtain ⟨k,hk,e⟩:=List.getElem_of_mem h
 exact ⟨k,hk,by simp [hk,e]⟩
theorem backsOk_pw {l:List Bk}:backsOkB l=true↔l.Pairwise (fun a b=> a.1 < b.1)∧∀b∈l,backB b.1 b.2.1=true:=by
 constructor
 ·intro h
  refine ⟨List.pairwise_iff_getElem.2 fun i j hi hj hij=> ?_,fun b hb=> ?_⟩
  ·have:=backs_lt h j hj i hij
   simpa [hi,hj] using this
  ·obtain ⟨k,hk,e⟩:=getD_mem (d:=(0,0,false)) hb
   have:=backsOkB_iff.1 h k hk
   unfold okAt at this
   rw [←e]
   simp only [Bool.and_eq_true] at this
   exact this.1
 ·rintro ⟨h1,h2⟩
  refine backsOkB_iff.2 fun k hk=> ?_
  unfold okAt
  simp only [Bool.and_eq_true]
  refine ⟨h2 _ (by simp [hk]), ?_⟩
  rcases Nat.eq_zero_or_pos k with e|e
  ·subst e;simp
  ·have:=List.pairwise_iff_getElem.1 h1 (k - 1) k (by omega) hk (by omega)
   have hk1:k - 1 < l.length:=by omega
   simp only [List.getD_eq_getElem?_getD,List.getElem?_eq_getElem hk,List.getElem?_eq_getElem hk1,Option.getD_some]
   simp [this]
theorem placeN_cons (b:Bk) (l:List Bk) (id:Int):placeN (b::l) id=if b.1 < id then placeN l id+1 else 0:=by
 unfold placeN
 rw [List.takeWhile_cons]
 by_cases h:b.1 < id <;> simp [h]
theorem take_below:∀(l:List Bk) (id:Int),∀a∈l.take (placeN l id),a.1 < id
 |[],id,a,h=> by simp at h
 |b::l,id,a,h=> by
  rw [placeN_cons] at h
  by_cases hb:b.1 < id
  ·rw [if_pos hb,List.take_succ_cons] at h
   rcases List.mem_cons.1 h with e|e
   ·rw [e];exact hb
   ·exact take_below l id a e
  ·rw [if_neg hb] at h;simp at h
theorem drop_above {l:List Bk} {id:Int} (h:l.Pairwise (fun a b=> a.1 < b.1)) (hn:thereB l id=false):∀b∈l.drop (placeN l id),id < b.1:=by
 intro b hb
 have hp:=placeN_le l id
 rcases Nat.lt_or_ge (placeN l id) l.length with hlt|hge
 ·have h1:=placeN_at l id hlt
  unfold thereB at hn
  simp only [hlt,decide_true,Bool.true_and,beq_eq_false_iff_ne] at hn
  have h2:id < (l.getD (placeN l id) (0,0,false)).1:=by omega
  rw [List.drop_eq_getElem_cons hlt] at hb
  have e:l.getD (placeN l id) (0,0,false)=l[placeN l id]:=by simp [hlt]
  rw [e] at h2
  rcases List.mem_cons.1 hb with e1|e1
  ·rw [e1];exact h2
  ·have h3:(l.drop (placeN l id)).Pairwise (fun a b=> a.1 < b.1):=h.sublist (List.drop_sublist _ _)
   rw [List.drop_eq_getElem_cons hlt] at h3
   have:=(List.pairwise_cons.1 h3).1 b e1
   omega
 ·rw [List.drop_eq_nil_of_le hge] at hb;simp at hb
theorem ok_insert {l:List Bk} {id g:Int} (h:backsOkB l=true) (hn:thereB l id=false) (hb:backB id g=true):backsOkB (l.take (placeN l id)++(id,g,false)::l.drop (placeN l id))=true:=by
 obtain ⟨h1,h2⟩:=backsOk_pw.1 h
 have hd:=drop_above h1 hn
 refine backsOk_pw.2 ⟨?_, ?_⟩
 ·have e:l.take (placeN l id)++l.drop (placeN l id)=l:=List.take_append_drop _ _
  rw [←e] at h1
  obtain ⟨p1,p2,p3⟩:=List.pairwise_append.1 h1
  refine List.pairwise_append.2 ⟨by simpa using p1,List.pairwise_cons.2 ⟨by simpa using hd,by simpa using p2⟩, ?_⟩
  intro a ha b hb
  rcases List.mem_cons.1 hb with e1|e1
  ·rw [e1];exact take_below l id a ha
  ·have:=take_below l id a ha;have:=hd b e1;omega
 ·intro b hb'
  rcases List.mem_append.1 hb' with e|e
  ·exact h2 b (List.mem_of_mem_take e)
  ·rcases List.mem_cons.1 e with e|e
   ·rw [e];exact hb
   ·exact h2 b (List.mem_of_mem_drop e)
theorem ok_remove {l:List Bk} (n:Nat) (h:backsOkB l=true):backsOkB (l.take n++l.drop (n+1))=true:=by
 obtain ⟨h1,h2⟩:=backsOk_pw.1 h
 have hs:(l.take n++l.drop (n+1)).Sublist l:=by
  have:=List.Sublist.append (List.Sublist.refl (l.take n)) (List.drop_sublist 1 (l.drop n))
  rw [List.drop_drop,List.take_append_drop] at this
  exact this
 exact backsOk_pw.2 ⟨h1.sublist hs,fun b hb=> h2 b (hs.subset hb)⟩
theorem ok_set {l:List Bk} {n:Nat} {a:Bk} (h:backsOkB l=true) (hn:n < l.length) (e:(l.getD n (0,0,false)).1=a.1) (ha:backB a.1 a.2.1=true):backsOkB (l.set n a)=true:=by
 obtain ⟨h1,h2⟩:=backsOk_pw.1 h
 refine backsOk_pw.2 ⟨?_, ?_⟩
 ·have h3:(l.map (·.1)).Pairwise (fun a b=> a < b):=List.pairwise_map.2 h1
  have e2:(l.set n a).map (·.1)=l.map (·.1):=by
   apply List.ext_getElem
   ·simp
   ·intro i h4 h5
    simp only [List.getElem_map,List.getElem_set]
    split
    ·next hi=> subst hi;rw [←e];simp [hn]
    ·rfl
  have h6:=e2 ▸ h3
  exact List.pairwise_map.1 h6
 ·intro b hb
  rcases List.mem_or_eq_of_mem_set hb with hb|hb
  ·exact h2 b hb
  ·rw [hb];exact ha
theorem doL_some {l m:List Bk} {k i g:Int} (h:doL l k i g=some m):(thereB l i=false∧k=0∧m=l.take (placeN l i)++(i,g,false)::l.drop (placeN l i))∨(thereB l i=true∧k=1∧m=l.set (placeN l i) (i,g,(l.getD (placeN l i) (0,0,false)).2.2))∨(thereB l i=true∧k=2∧m=l.set (placeN l i) (i,(l.getD (placeN l i) (0,0,false)).2.1,true))∨(thereB l i=true∧k≠0∧k≠1∧k≠2∧m=l.take (placeN l i)++l.drop (placeN l i+1)):=by
 unfold doL at h
 split at h
 ·cases h
 ·next hne=>
  injection h with h
  by_cases h0:k=0
  ·subst h0
   simp only [beq_self_eq_true,Bool.not_eq_true] at hne
   left;exact ⟨hne,rfl,by rw [←h];simp⟩
  ·have hk:(k==0)=false:=beq_eq_false_iff_ne.2 h0
   rw [hk] at hne
   have ht:thereB l i=true:=by cases h:thereB l i <;> simp_all
   right
   by_cases h1:k=1
   ·left;exact ⟨ht,h1,by rw [←h,if_neg h0,if_pos h1]⟩
   ·right
    by_cases h2:k=2
    ·left;exact ⟨ht,h2,by rw [←h,if_neg h0,if_neg h1,if_pos h2]⟩
    ·right;exact ⟨ht,h0,h1,h2,by rw [←h,if_neg h0,if_neg h1,if_neg h2]⟩
theorem doL_len {l m:List Bk} {k i g:Int} (h:doL l k i g=some m):m.length≤l.length+1:=by
 have hp:=placeN_le l i
 rcases doL_some h with ⟨_,_,rfl⟩|⟨_,_,rfl⟩|⟨_,_,rfl⟩|⟨_,_,_,_,rfl⟩ <;> simp <;> omega
theorem there_lt0 {l:List Bk} {id:Int} (h:thereB l id=true):placeN l id < l.length:=by
 unfold thereB at h;simp at h;exact h.1
theorem there_is0 {l:List Bk} {id:Int} (h:thereB l id=true):(l.getD (placeN l id) (0,0,false)).1=id:=by
 unfold thereB at h;simp only [Bool.and_eq_true,beq_iff_eq] at h;exact h.2
theorem cmdOkB_back {k i g:Int} (h:cmdOkB k i g=true):k=0∨k=1→backB i g=true:=by
 intro hk
 unfold cmdOkB at h
 unfold backB
 simp at h ⊢
 omega
theorem doL_ok {l m:List Bk} {k i g:Int} (hl:backsOkB l=true) (hc:cmdOkB k i g=true) (h:doL l k i g=some m):backsOkB m=true:=by
 have hcb:=cmdOkB_back hc
 rcases doL_some h with ⟨ht,hk,rfl⟩|⟨ht,hk,rfl⟩|⟨ht,hk,rfl⟩|⟨ht,hk,_,_,rfl⟩
 ·exact ok_insert hl ht (hcb (.inl hk))
 ·exact ok_set hl (there_lt0 ht) (there_is0 ht) (hcb (.inr hk))
 ·refine ok_set hl (there_lt0 ht) (there_is0 ht) ?_
  obtain ⟨h1,h2⟩:=backsOk_pw.1 hl
  have hlt:=there_lt0 ht
  have:=h2 (l.getD (placeN l i) (0,0,false)) (by simp [hlt])
  rw [there_is0 ht] at this
  exact this
 ·exact ok_remove _ hl
def stepO (s:Option (List Bk)) (c:Cd):Option (List Bk):=s.bind fun l=> if cmdOkB c.1 c.2.1 c.2.2=true then doL l c.1 c.2.1 c.2.2 else none
def runTo (cs:List Cd) (q:Nat):Option (List Bk):=(cs.take q).foldl stepO (some [])
theorem runTo_zero (cs:List Cd):runTo cs 0=some []:=rfl
theorem runTo_succ {cs:List Cd} {q:Nat} (h:q < cs.length):runTo cs (q+1)=stepO (runTo cs q) (cs.getD q (0,0,0)):=by
 unfold runTo
 rw [takeL_succ layC cs q h,List.foldl_append]
 rfl
theorem foldO_none (cs:List Cd):cs.foldl stepO none=none:=by
 induction cs with
 |nil=> rfl
 |cons c cs ih=> exact ih
theorem runTo_none {cs:List Cd} {q r:Nat} (h:runTo cs q=none) (hr:q≤r):runTo cs r=none:=by
 unfold runTo at h ⊢
 have e:cs.take r=cs.take q++(cs.take r).drop q:=by
  have:=(List.take_append_drop q (cs.take r)).symm
  rwa [List.take_take,Nat.min_eq_left hr] at this
 rw [e,List.foldl_append,h,foldO_none]
theorem runTo_ok {cs:List Cd}:∀(q:Nat) (l:List Bk),q≤cs.length→runTo cs q=some l→backsOkB l=true∧l.length≤q
 |0,l,hq,h=> by rw [runTo_zero] at h;injection h with h;subst h;exact ⟨rfl,Nat.le_refl _⟩
 |q+1,l,hq,h=> by
  rw [runTo_succ (by omega)] at h
  cases hp:runTo cs q with
  |none=> rw [hp] at h;cases h
  |some l0=>
   rw [hp] at h
   obtain ⟨i1,i2⟩:=runTo_ok q l0 (by omega) hp
   simp only [stepO,Option.bind_some] at h
   split at h
   ·next hc=>
    have:=doL_len h
    exact ⟨doL_ok i1 hc h,by omega⟩
   ·cases h
def journalB (key:Int) (cs:List Cd) (safe:Int):Bool:=keyB key && decide (cs.length≤100) && decide (0≤safe) && decide (safe≤(cs.length:Int)) && (runTo cs cs.length).isSome
def stepM (k i g fi:Int) (s:List Bk × Bool) (t:Nat) (b:Bk):List Bk × Bool:=
 if (t:Int)=fi then (if k=3 then (if s.2=false∧i < b.1 then (s.1++[(i,g,false)],true) else s) else if k=1 then ((if s.2=false∧i < b.1 then (s.1++[(i,g,false)],true) else s).1++[(b.1,g,b.2.2)],(if s.2=false∧i < b.1 then (s.1++[(i,g,false)],true) else s).2) else ((if s.2=false∧i < b.1 then (s.1++[(i,g,false)],true) else s).1++[(b.1,b.2.1,true)],(if s.2=false∧i < b.1 then (s.1++[(i,g,false)],true) else s).2))
 else ((if s.2=false∧i < b.1 then (s.1++[(i,g,false)],true) else s).1++[b],(if s.2=false∧i < b.1 then (s.1++[(i,g,false)],true) else s).2)
def runM (l:List Bk) (k i g fi:Int):Nat→List Bk × Bool
 |0=> ([], !(k==0))
 |t+1=> stepM k i g fi (runM l k i g fi t) t (l.getD t (0,0,false))
def endM (s:List Bk × Bool) (i g:Int):List Bk:=if s.2=true then s.1 else s.1++[(i,g,false)]
theorem take_snoc {l:List Bk} {t:Nat} (h:t < l.length):l.take (t+1)=l.take t++[l.getD t (0,0,false)]:=takeL_succ layK l t h
theorem takeDrop_snoc {l:List Bk} {t n:Nat} (h:t < l.length) (hn:n≤t):(l.take (t+1)).drop n=(l.take t).drop n++[l.getD t (0,0,false)]:=by
 rw [take_snoc h,List.drop_append_of_le_length (by simp;omega)]
theorem run_add {l:List Bk} {i g:Int} (hl:backsOkB l=true) (hn:thereB l i=false):∀t,t≤l.length→runM l 0 i g (-1) t=if t≤placeN l i then (l.take t,false) else (l.take (placeN l i)++(i,g,false)::(l.take t).drop (placeN l i),true)
 |0,_=> by simp [runM]
 |t+1,ht=> by
  have ih:=run_add (g:=g) hl hn t (by omega)
  have hlt:t < l.length:=by omega
  have hneg:¬((t:Int)= -1):=by omega
  have hda:=drop_above (backsOk_pw.1 hl).1 hn
  unfold runM
  rw [ih]
  unfold stepM
  rw [if_neg hneg]
  rcases Nat.lt_trichotomy t (placeN l i) with h|h|h
  ·have hb:=placeN_lt l i t h
   have hA:t≤placeN l i:=by omega
   have hB:t+1≤placeN l i:=by omega
   have hC:¬i < (l.getD t (0,0,false)).1:=by omega
   simp only [if_pos hA,if_pos hB,hC,and_false,if_false]
   rw [take_snoc hlt]
  ·have hm:l.getD t (0,0,false)∈l.drop (placeN l i):=by
    have e:l.getD t (0,0,false)=l[t]:=by simp [hlt]
    rw [←h,List.drop_eq_getElem_cons hlt,e]
    exact List.mem_cons_self
   have hb:=hda _ hm
   have hA:t≤placeN l i:=by omega
   have hB:¬t+1≤placeN l i:=by omega
   simp only [if_pos hA,if_neg hB,hb,and_self,if_true]
   rw [takeDrop_snoc hlt (by omega),←h]
   simp
  ·have hA:¬t≤placeN l i:=by omega
   have hB:¬t+1≤placeN l i:=by omega
   simp only [if_neg hA,if_neg hB,Bool.true_eq_false,false_and,if_false]
   rw [takeDrop_snoc hlt (by omega)]
   simp
theorem run_set {l:List Bk} {k i g:Int} {pl:Nat} {a:Bk} (h0:(k==0)=false) (h3:k≠3) (ha:∀b:Bk,b=l.getD pl (0,0,false)→(if k=1 then (b.1,g,b.2.2) else (b.1,b.2.1,true))=a):∀t,t≤l.length→runM l k i g (pl:Int) t=((l.set pl a).take t,true)
 |0,_=> by simp [runM,h0]
 |t+1,ht=> by
  have ih:=run_set (g:=g) (i:=i) h0 h3 ha t (by omega)
  have hlt:t < l.length:=by omega
  unfold runM
  rw [ih]
  unfold stepM
  have hno:¬((true=false)∧i < (l.getD t (0,0,false)).1):=by rintro ⟨h,_⟩;cases h
  rw [take_snoc (l:=l.set pl a) (by simpa using hlt)]
  by_cases h:t=pl
  ·subst h
   have e:=ha _ rfl
   rw [if_pos rfl,if_neg h3]
   simp only [hno,if_false]
   have e2:(l.set t a).getD t (0,0,false)=a:=by simp [hlt]
   rw [e2,←e]
   by_cases h1:k=1
   ·rw [if_pos h1,if_pos h1]
   ·rw [if_neg h1,if_neg h1]
  ·have hC:¬((t:Int)=(pl:Int)):=by omega
   rw [if_neg hC]
   simp only [hno,if_false]
   have e2:(l.set pl a).getD t (0,0,false)=l.getD t (0,0,false):=by
    simp only [List.getD_eq_getElem?_getD];rw [List.getElem?_set_ne (fun e=> h e.symm)]
   rw [e2]
theorem run_rem {l:List Bk} {i g:Int} {pl:Nat}:∀t,t≤l.length→runM l 3 i g (pl:Int) t=(if t≤pl then l.take t else l.take pl++(l.take t).drop (pl+1),true)
 |0,_=> by simp [runM]
 |t+1,ht=> by
  have ih:=run_rem (l:=l) (g:=g) (i:=i) (pl:=pl) t (by omega)
  have hlt:t < l.length:=by omega
  unfold runM
  rw [ih]
  unfold stepM
  have hno:¬((true=false)∧i < (l.getD t (0,0,false)).1):=by rintro ⟨h,_⟩;cases h
  simp only [hno,if_false,if_true]
  rcases Nat.lt_trichotomy t pl with h|h|h
  ·have hA:t≤pl:=by omega
   have hB:t+1≤pl:=by omega
   have hC:¬((t:Int)=(pl:Int)):=by omega
   simp only [if_pos hA,if_pos hB,if_neg hC]
   rw [take_snoc hlt]
  ·have hA:t≤pl:=by omega
   have hB:¬t+1≤pl:=by omega
   have hC:(t:Int)=(pl:Int):=by omega
   simp only [if_pos hA,if_neg hB,if_pos hC]
   rw [h]
   simp
  ·have hA:¬t≤pl:=by omega
   have hB:¬t+1≤pl:=by omega
   have hC:¬((t:Int)=(pl:Int)):=by omega
   simp only [if_neg hA,if_neg hB,if_neg hC]
   rw [takeDrop_snoc hlt (by omega)]
   simp
theorem run_end {l m:List Bk} {k i g:Int} (hl:backsOkB l=true) (hc:cmdOkB k i g=true) (h:doL l k i g=some m):endM (runM l k i g (findI l i) l.length) i g=m:=by
 have hpl:=placeN_le l i
 unfold findI
 rcases doL_some h with ⟨ht,hk,hm⟩|⟨ht,hk,hm⟩|⟨ht,hk,hm⟩|⟨ht,hk,hk1,hk2,hm⟩
 ·subst hk
  rw [ht]
  simp only [Bool.false_eq_true,if_false]
  rw [run_add hl ht l.length (Nat.le_refl _),hm]
  unfold endM
  by_cases hle:l.length≤placeN l i
  ·rw [if_pos hle]
   have e:placeN l i=l.length:=by omega
   simp [e]
  ·rw [if_neg hle]
   simp
 ·subst hk
  rw [ht,if_pos rfl,run_set (pl:=placeN l i) (a:=(i,g,(l.getD (placeN l i) (0,0,false)).2.2)) rfl (by decide) (fun b hb=> by rw [hb,if_pos rfl,there_is0 ht]) l.length (Nat.le_refl _),hm]
  unfold endM;rw [if_pos rfl];exact List.take_of_length_le (by simp)
 ·subst hk
  rw [ht,if_pos rfl,run_set (pl:=placeN l i) (a:=(i,(l.getD (placeN l i) (0,0,false)).2.1,true)) rfl (by decide) (fun b hb=> by rw [hb,if_neg (by decide),there_is0 ht]) l.length (Nat.le_refl _),hm]
  unfold endM;rw [if_pos rfl];exact List.take_of_length_le (by simp)
 ·have h3:k=3:=by have:=cmdOkB_iff.1 hc;unfold CmdOk at this;omega
  subst h3
  rw [ht,if_pos rfl,run_rem l.length (Nat.le_refl _),hm]
  have hlt:=there_lt0 ht
  rw [if_neg (by omega)]
  simp [endM]
theorem runM_len (l:List Bk) (k i g fi:Int):∀t,(runM l k i g fi t).1.length≤2 * t
 |0=> by simp [runM]
 |t+1=> by
  have ih:=runM_len l k i g fi t
  unfold runM stepM
  split
  ·split
   ·split <;> simp <;> omega
   ·split
    ·split <;> simp <;> omega
    ·split <;> simp <;> omega
  ·split <;> simp <;> omega
theorem stepM_put {k i g fi:Int} {s:List Bk × Bool} {t:Nat} {b:Bk} (h:(stepM k i g fi s t b).2=false):s.2=false:=by
 cases hs:s.2 with
 |false=> rfl
 |true=>
  exfalso
  unfold stepM at h
  simp only [hs,Bool.true_eq_false,false_and,if_false] at h
  split at h
  ·split at h
   ·rw [hs] at h;cases h
   ·split at h <;> cases h
  ·cases h
theorem runM_put {l:List Bk} {k i g fi:Int}:∀t,(runM l k i g fi t).2=false→(k==0)=true
 |0,h=> by simpa [runM] using h
 |t+1,h=> runM_put (l:=l) (i:=i) (g:=g) (fi:=fi) t (stepM_put h)
theorem wpList_append_head {w:World} {ops:Array Oper} {rest:List Oper} {o:Oper} {a:Act} {Q:Exit→Act→World→Prop} (hgd:o.guard=none) (s x:Operand)
  (ho:o.op=.call { callee:=.builtin .append,args:=#[s,x],argTypes:=#[228,228] }) (base:Nat) (v:Value) (hs:List Hd) (he:a.eval s=v) (hown:ownL layH 60 w base v hs)
  (n:Nat) (o4:Option Addr) (m c:Nat) (hx:a.eval x=.slice (some ⟨n,0,none⟩) 1 1) (h0:w.cell? ⟨n,0,none⟩=some (.slice o4 m c)) (hlen:hs.length≤1000) (hbase:base≤w.heap.size)
  (h:∀v' w',ownL layH 60 w' base v' (hs++[(o4,m,c)])→w.grownBy w' v.ownBlock→wpList Tryz.prog ops Q rest (a.put o.dst v') w'):wpList Tryz.prog ops Q (o::rest) a w:=by
 obtain ⟨i0,hi,hz0,hz1,hz2⟩:=info_parts infoIntS
 refine wpList_append_own _ hgd s x 228 ho base 60 i0 (.slice none 0 0) 1 24 Tryz.underlying228 hi hz0 hz1 hz2 rfl (by decide) v _ _ he hown ⟨n,0,none⟩ 1 1 [.slice o4 m c] hx rfl ?_ (by simp [Value.oneCell']) (by unfold maxLen;omega) (by omega) hbase ?_
 ·intro j u hj
  match j,hj with
  |0,hj=> simp at hj;subst hj;exact h0
 ·intro v' w' h1 h2 _
  refine h v' w' ?_ h2
  unfold ownL
  simpa [layH] using h1
theorem pairI_yes {key:Int} {l:List Bk} (hk:keyB key=true) (hl:backsOkB l=true) (b:Nat) (hb:b < 8):pairL (pick (scL key b l))=pairI key b l:=by
 have h1:(0:Int)≤(b:Int):=by omega
 have h2:(b:Int) < 8:=by omega
 rw [pairI,if_pos ⟨hk,⟨h1,h2⟩,hl⟩]
theorem l3tableO_any (key:Int) (o:Option Addr) (cap:Nat) (l:List Bk) (w:World) (hR:RdK w.heap.size w o l) (hlen:l.length≤1000) (hk:keyB key=true) (hl:backsOkB l=true):
  Calls Tryz.prog 190 #[.int .i64 key,.slice o l.length cap] w fun e w'=> ∃o' c' hs,e=.returned (.slice o' 8 c')∧ownL layH 60 w' w.heap.size (.slice o' 8 c') hs∧Tab (fun b=> pairI key b l) 8 w' w.heap.size hs∧Below w.heap.size w w':=by
 have HP:=hide (fun (b:Nat) (hb:b < 8) W h=> (pairI_yes hk hl b hb) ▸ l3pair_any key b o cap l W h hlen hk ⟨by omega,by omega⟩ hl)
 go_enter Tryz.func190,Tryz.ntmps190
 go_wp2
 go_loopw [5,6] (fun out iv wr=> ∃(k:Nat) (hs:List Hd),k≤8∧iv=.int .i64 k∧ownL layH 60 wr w.heap.size out hs∧Tab (fun b=> pairI key b l) k wr w.heap.size hs∧Below w.heap.size w wr)
  (fun _ iv _=> 8 - (intOf iv).toNat)
 case atStart=> exact ⟨0,[],Nat.zero_le _,rfl,World.ownsRow_nil _ _ _ _,Tab.nil _ _ _,Below.refl _ _⟩
 case round=>
  rename_i out _
  obtain ⟨k,hs,hk8,rfl,hor,htr,hBr⟩:=hrel
  by_cases hlt:k < 8
  ·have hp:=HP.out k hlt wr ((hR.kept hBr (Nat.le_refl _)).le hBr.size)
   have HO:=hide hor
   have HT:=hide htr
   have HB:=hide hBr
   have z1:(k:Int) < 8:=by omega
   clear hor htr hBr
   go_wp2_with fail
   refine hp.mono ?_
   rintro e w4 ⟨v4,rfl,hv4,hb4⟩
   obtain ⟨o4,c4,e4,_⟩:=ownL.open (L:=layI) hv4
   rw [e4] at hv4 ⊢
   have HT4:=hide ((HT.out.kept hb4).snoc HT.out.lt HB.out.size hv4)
   have HO4:=hide (own_kept HO.out hb4)
   have HB4:=hide (HB.out.trans (hb4.mono HB.out.size))
   have hl4:hs.length≤1000:=by rw [HT.out.len];omega
   have hs4:=HB4.out.size
   clear hv4 hb4 hp e4
   generalize (pairI key k l).length=q at *
   go_wp2_with (at_builtin;refine wpList_append_head rfl (.tmp 11) (.tmp 16) rfl w.heap.size _ hs rfl (HO4.out.alloc _) w4.heap.size o4 q c4 rfl ?c1 hl4 ?c2 ?_)
   case c1=> simp
   case c2=> simp;omega
   intro v5 w5 ho5 hg5
   have HA:=hide (World.ownsRow.alloc HO4.out (.cells #[.slice o4 q c4] 60))
   have HT5:=hide (Tab.other (HT4.out.kept ((Below.refl _ _).alloc (Nat.le_refl _) _)) HA.out intNe hg5)
   have HB5:=hide ((HB4.out.alloc hs4 _).grown hg5 (by simp;omega) (fun k h=> (HA.out.lt k h).1))
   have HO5:=hide ho5
   clear hg5 ho5
   go_wp2
   go_roundw
   case rel=> exact ⟨k+1,_,by omega,by go_num,HO5.out,HT5.out,HB5.out⟩
   case measure=> simp [intOf];omega
  ·have e:k=8:=by omega
   subst e
   obtain ⟨o',c',e',_⟩:=ownL.open (L:=layH) hor
   have hll:=htr.len
   rw [e',hll] at hor
   rw [e',hll]
   have HX:=hide (And.intro hor htr)
   have HB:=hide hBr
   clear hor htr hBr e'
   go_wp2
   go_ret
   exact ⟨o',c',hs,rfl,HX.out.1,HX.out.2,HB.out⟩
end Go.Proofs.YtgplppfbinfelaaGreat
namespace Go.Proofs.YtgplppfbinfelaaGreat
open Go.ChangeShapes Go.WideShapes Go.ChangeAt Go.RowKit Go.Joins
set_option linter.unusedVariables false
set_option linter.unusedSimpArgs false
set_option maxRecDepth 100000
set_option maxHeartbeats 40000000
variable {α:Type}
theorem RdL.drop0 {L:Lay α} {C:Nat} {w:World} {b off:Nat} {l:List α} (h:RdL L C w (some ⟨b,off,none⟩) l) (k q:Nat) (hq:q=off+k * L.k):RdL L C w (some ⟨b,q,none⟩) (l.drop k):=by
 subst hq
 rcases h with h|⟨b',off',ho,hlt,r⟩
 ·left;rw [h];simp
 ·obtain ⟨rfl,rfl⟩:b=b'∧off=off':=by simpa using ho
  refine .inr ⟨b,off+k * L.k,rfl,hlt,fun i hi j hj=> ?_⟩
  have hi':k+i < l.length:=by simp at hi;omega
  have:=r (k+i) hi' j hj
  rw [Nat.add_mul,←Nat.add_assoc] at this
  rw [this]
  congr 2
  simp [List.getD_eq_getElem?_getD,List.getElem?_drop]
theorem own_prefix {L:Lay α} {e:TypeId} {w:World} {base g cap:Nat} {l:List α} (hv:ownL L e w base (.slice (some ⟨g,0,none⟩) l.length cap) l) (i:Nat) (hi:i≤l.length):ownL L e w base (.slice (some ⟨g,0,none⟩) i cap) (l.take i):=by
 have hlen:(l.take i).length=i:=by simp;omega
 rcases hv.2 with ⟨h1,_⟩|⟨g',c',cur,h1,hb,hc,h4,h5,h6,h7⟩
 ·cases h1
 ·injection h1 with h1 _ h3
  injection h1 with h1
  injection h1 with h1 _ _
  subst h1 h3
  refine ⟨by rw [flat_length],.inr ⟨g,cap,cur,by rw [hlen],hb,hc,by omega,h5,h6, ?_⟩⟩
  rw [hlen]
  have e1:cur.toList.take (i * L.k)=(cur.toList.take (l.length * L.k)).take (i * L.k):=by
   rw [List.take_take,Nat.min_eq_left (Nat.mul_le_mul_right _ hi)]
  rw [e1,h7]
  have e2:l.flatMap L.cs=(l.take i).flatMap L.cs++(l.drop i).flatMap L.cs:=by rw [←List.flatMap_append,List.take_append_drop]
  rw [e2]
  exact List.take_left' (by rw [flat_length,hlen])
theorem step_append_fits {L:Lay α} {t e:TypeId} (ok:AppOk L t e) {ops:Array Oper} {o:Oper} {a:Act} {w:World} {K:Act→World→Prop} {Q:Exit→Act→World→Prop} {E:Prop} (hgd:o.guard=none) (s x:Operand)
  (ho:o.op=.call { callee:=.builtin .append,args:=#[s,x],argTypes:=#[t,t] }) (base g n cap:Nat) (l0:List α) (hn0:n=l0.length) (hs:a.eval s=.slice (some ⟨g,0,none⟩) n cap) (hown:ownL L e w base (.slice (some ⟨g,0,none⟩) n cap) l0)
  (ad:Addr) (c C:Nat) (l:List α) (m:Nat) (hm:m=l.length) (hx:a.eval x=.slice (some ad) m c) (hR:RdL L C w (some ad) l) (hroom:n+m≤cap)
  (h:∀w',ownL L e w' base (.slice (some ⟨g,0,none⟩) (n+m) cap) (l0++l)→w.grownBy w' (some g)→K (a.put o.dst (.slice (some ⟨g,0,none⟩) (n+m) cap)) w'):if Region.wanted o (yielded ops a.tmps)=true then Oper.wp Tryz.prog o a w K Q else E:=by
 subst hm hn0
 have hw:Region.wanted o (yielded ops a.tmps)=true:=by simp [Region.wanted,hgd]
 rw [if_pos hw]
 obtain ⟨z,bytes,hinfo,hzs,hby⟩:=ok.info
 obtain ⟨i0,hi,hz0,hz1,hz2⟩:=info_parts hinfo
 obtain ⟨w',hr,h1,h2⟩:=run_append_fits (P:=Tryz.prog) w base t o.type e i0 L.k ok.under hi hz1 g _ cap _ hown ad l.length c (l.flatMap L.cs) (flat_length L l) (hR.news ok.pos) (flat_one' ok.one l) hroom
 unfold Oper.wp execOp
 simp only [ho,resolve,invoke,builtin,Sem.run_bind,Sem.run_pure,Result.andThen_ok,List.map_toArray,List.map_cons,List.map_nil,hs,hx,hr]
 exact h w' (by unfold ownL;simpa using h1) h2
theorem zeroBack (w:World):(zeroValue 226).run Tryz.prog w=.ok (.agg #[.int .i64 0,.int .i64 0,.bool false]) w:=by kernel_rfl
theorem clear_behind {w:World} {base g cap n:Nat} {xs:List Value} (hv:w.ownsRow base 226 3 (.slice (some ⟨g,0,none⟩) n cap) n xs) (hroom:n+1≤cap) (ty:TypeId) (c:Nat):
  ∃w',Sem.run Tryz.prog (Builtin.clear_ #[44] ty #[.slice (some ⟨g,n * 3,none⟩) 1 c]) w=.ok (.tuple #[]) w'∧w'.ownsRow base 226 3 (.slice (some ⟨g,0,none⟩) n cap) n xs∧w.grownBy w' (some g):=by
 rcases hv.2 with ⟨h1,_⟩|⟨g',c',cur,h1,hb,hc,h4,h5,h6,h7⟩
 ·cases h1
 ·injection h1 with h1 _ h3
  injection h1 with h1
  injection h1 with h1 _ _
  subst h1 h3
  have hzc:(Builtin.zeroCells (Value.agg #[.int .i64 0,.int .i64 0,.bool false]).cells 1).toList=[.int .i64 0,.int .i64 0,.bool false]:=by first|kernel_rfl|(simp [Builtin.zeroCells,Value.cells];done)|decide
  have hst:=run_storeCells_at (P:=Tryz.prog) g (n * 3) 226 [.int .i64 0,.int .i64 0,.bool false] 0 cur w hc (by simp;omega) (by intro v hv;simp at hv;rcases hv with rfl|rfl|rfl <;> rfl)
  refine ⟨_,by simp [Builtin.clear_,run_underlying Tryz.underlying44,zeroBack,hzc,hst];rfl,⟨hv.1,.inr ⟨g,cap,_,rfl,hb,setRow_heap w g cur _ 226 _ hc,h4,h5, ?_, ?_⟩⟩,⟨rfl,rfl,rfl,by simp,fun k _ hk=> setRow_other w g k _ (fun e=> hk (by simp [e]))⟩⟩
  ·simp;omega
  ·simp only [Nat.add_zero,List.append_assoc]
   rw [List.take_append_of_le_length (by simp;omega),List.take_take,Nat.min_self]
   exact h7
theorem slicesDelete_any (base g cap i:Nat) (l:List Bk) (w:World) (hv:ownK w base (.slice (some ⟨g,0,none⟩) l.length cap) l) (hi:i < l.length) (hl:l.length≤1000):
  Calls Tryz.prog 242 #[.slice (some ⟨g,0,none⟩) l.length cap,.int .i64 i,.int .i64 ((i:Int)+1)] w fun e w'=> ∃v,e=.returned v∧ownK w' base v (l.take i++l.drop (i+1))∧w.grownBy w' (some g):=by
 have hcap:l.length≤cap:=by
  rcases hv.2 with ⟨h1,_⟩|⟨g',c',cur,h1,_,_,h4,_⟩
  ·cases h1
  ·injection h1 with _ _ h3;omega
 have z0:(i:Int) < (l.length:Int):=by omega
 have z1:(i:Int)+1≤(l.length:Int):=by omega
 have z2:0≤(i:Int)+1:=by omega
 have n1:i+1≤l.length:=by omega
 have n2:i≤l.length:=by omega
 have n3:i≤cap:=by omega
 have n4:i+1≤cap:=by omega
 have n5:((i:Int)==(i:Int)+1)=false:=by simp;omega
 have HV:=hide hv
 have FA:ownK w.drew base (.slice (some ⟨g,0,none⟩) i cap) (l.take i):=own_prefix hv i n2
 have FR:RdK w.heap.size w.drew (if cap=i+1 then some ⟨g,0,none⟩ else some ⟨g,(i+1) * 3,none⟩) (l.drop (i+1)):=by
  have hr:RdK w.heap.size w (some ⟨g,0,none⟩) l:=ownL.rd (L:=layK) hv
  split
  ·left;exact List.drop_eq_nil_of_le (by omega)
  ·have h:=hr.drop0 (i+1) ((i+1) * 3) (by simp [layK])
   exact h
 have HFA:=hide FA
 have HFR:=hide FR
 clear FA FR hv
 go_enter Tryz.func242,Tryz.ntmps242
 go_wp2
 obtain ⟨ad,had⟩:∃ad,(if cap=i+1 then some (⟨g,0,none⟩:Addr) else some ⟨g,(i+1) * 3,none⟩)=some ad:=by split <;> exact ⟨_,rfl⟩
 rw [had] at HFR
 go_region_law (first|(refine step_append_fits appK0 rfl _ _ rfl base g i cap (l.take i) ?h0 rfl HFA.out ad (cap - (i+1)) w.heap.size (l.drop (i+1)) (l.length - (i+1)) ?h1 rfl HFR.out ?h2 ?_;(case h0=> (simp;omega));(case h1=> simp);(case h2=> omega);intro w8 hv8 hg8;have hv8:=hide hv8;have hg8:=hide hg8))
 all_goals (
  have hln:l.length=(i+(l.length - (i+1)))+1:=by omega
  generalize i+(l.length - (i+1))=n' at *
  have hv9:w8.ownsRow base 226 3 (.slice (some ⟨g,0,none⟩) n' cap) n' ((l.take i++l.drop (i+1)).flatMap layK.cs):=by
   have h:=hv8.out
   unfold ownL at h
   rwa [show (l.take i++l.drop (i+1)).length=n' by simp;omega] at h
  have HV9:=hide hv9
  have m1:n'+1≤cap:=by omega
  have m2:¬(cap=n'):=by omega
  obtain ⟨w10,hcl,hv10,hg10⟩:=clear_behind hv9 m1 0 (cap - n')
  have HV10:=hide hv10
  have HG10:=hide hg10
  have HLN:=hide hln
  clear HFA HFR had HV HV9 hv9 hv8 hv10 hg10
  go_wp2
  go_ret
  refine ⟨_,rfl, ?_, ?_⟩
  ·have h:=HV10.out
   unfold ownK ownL
   rw [show (l.take i++l.drop (i+1)).length=n' by have:=HLN.out;simp;omega]
   exact h
  ·have h:=hg8.out
   exact World.grownBy.trans ⟨h.os,h.tape,h.output,h.size,h.block⟩ HG10.out)
end Go.Proofs.YtgplppfbinfelaaGreat
namespace Go.Proofs.YtgplppfbinfelaaGreat
open Go.ChangeShapes Go.WideShapes Go.ChangeAt Go.RowKit Go.Joins
set_option linter.unusedVariables false
set_option linter.unusedSimpArgs false
set_option maxRecDepth 100000
set_option maxHeartbeats 40000000
theorem cmd_box {w w1:World} {k i g:Int} {t:TypeId} (h:Below (w.alloc (.cells #[.int .i64 k,.int .i64 i,.int .i64 g] t)).heap.size (w.alloc (.cells #[.int .i64 k,.int .i64 i,.int .i64 g] t)) w1) (o:Obj):
  w1.cell? ⟨w.heap.size,0,none⟩=some (.int .i64 k)∧w1.cell? ⟨w.heap.size,1,none⟩=some (.int .i64 i)∧w1.cell? ⟨w.heap.size,2,none⟩=some (.int .i64 g)∧
  (w1.alloc o).cell? ⟨w.heap.size,0,none⟩=some (.int .i64 k)∧(w1.alloc o).cell? ⟨w.heap.size,2,none⟩=some (.int .i64 g)∧Below w.heap.size w w1∧Below w.heap.size w (w1.alloc o):=by
 have hs:w.heap.size < (w.alloc (.cells #[.int .i64 k,.int .i64 i,.int .i64 g] t)).heap.size:=by simp
 have hs1:w.heap.size < w1.heap.size:=Nat.lt_of_lt_of_le hs h.size
 have hB:Below w.heap.size w w1:=((Below.refl _ _).alloc (Nat.le_refl _) _).trans (h.mono (by omega))
 have e:∀q,w1.cell? ⟨w.heap.size,q,none⟩=(w.alloc (.cells #[.int .i64 k,.int .i64 i,.int .i64 g] t)).cell? ⟨w.heap.size,q,none⟩:=fun q=> h.cell hs
 have e':∀q,(w1.alloc o).cell? ⟨w.heap.size,q,none⟩=w1.cell? ⟨w.heap.size,q,none⟩:=fun q=> ((Below.refl w1.heap.size w1).alloc (Nat.le_refl _) o).cell hs1
 refine ⟨?_, ?_, ?_, ?_, ?_,hB,hB.alloc (by omega) o⟩
 all_goals (simp only [e',e];unfold World.cell?;simp only [heap_alloc_new];rfl)
def deedV (k i g:Int):Value:=
 if k=0 then .iface 329 (.agg #[.int .i64 i,.int .i64 g]) else
 if k=1 then .iface 330 (.agg #[.int .i64 i,.int .i64 g]) else
 if k=2 then .iface 332 (.agg #[.int .i64 i]) else .iface 333 (.agg #[.int .i64 i])
theorem deedOf_any (k i g:Int) (w:World):
  Calls Tryz.prog 225 #[cmd k i g] w fun e w'=> e=.returned (.tuple #[if cmdOkB k i g then deedV k i g else .nilIface,.bool (cmdOkB k i g)])∧Below w.heap.size w w':=by
 have hc:=fun w=> implPoolCmdOk_any k i g w
 generalize cmdOkB k i g=t at hc ⊢
 cases t
 all_goals (
  go_enter Tryz.func225,Tryz.ntmps225
  go_wp2_with (first|(go_at_call 239;refine (hc _).mono ?_;rintro e w1 ⟨rfl,hb1⟩;obtain ⟨c0,c1,c2,d0,d2,hB,hB'⟩:=cmd_box hb1 (.cells #[.int .i64 i] 327);have HB:=hide hB;have HB':=hide hB';clear hb1 hB hB'))
  all_goals go_ret2
  all_goals refine ⟨?_,by first|exact HB.out|exact HB'.out⟩)
 all_goals (try simp only [beq_iff_eq,beq_eq_false_iff_ne,ne_eq] at *)
 all_goals simp_all [deedV]
end Go.Proofs.YtgplppfbinfelaaGreat
