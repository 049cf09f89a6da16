/- Several texts in one: SContest, STwo, PairMath, SPair, SPair2, STab, RowsP, RowsE, LRing, LRing2, STab2, SBSame. -/
import Derived.Test.YtgplppfbinfelaaGreatQOldest12
import Derived.Test.YtgplppfbinfelaaGreatQOldest17
import Derived.Test.YtgplppfbinfelaaGreatQOldest06
namespace Go.Proofs.YtgplppfbinfelaaGreat
open Go.ChangeShapes Go.WideShapes Go.ChangeAt Go.RowKit Go.Joins
set_option linter.unusedVariables false
set_option linter.unusedSimpArgs false
set_option maxRecDepth 100000
set_option maxHeartbeats 40000000
def scL (k b:Int) (l:List Bk):List Sc:=(l.filter (fun x=> !x.2.2)).map (fun x=> (x.1,scoreI k b x.1 x.2.1))
theorem scL_snoc_no (k b:Int) (l:List Bk) (x:Bk) (h:x.2.2=true):scL k b (l++[x])=scL k b l:=by simp [scL,h]
theorem scL_snoc_yes (k b:Int) (l:List Bk) (x:Bk) (h:x.2.2=false):scL k b (l++[x])=scL k b l++[(x.1,scoreI k b x.1 x.2.1)]:=by simp [scL,h]
def Holds (lb ls:List Sc):Prop:=lb.length=ls.length∧(∀z,(∃i,i < lb.length∧lb.getD i (0,0)=z)↔z∈ls)∧Dist lb lb.length
theorem mem_getD {l:List Sc} {z:Sc}:(∃i,i < l.length∧l.getD i (0,0)=z)↔z∈l:=by
 constructor
 ·rintro ⟨i,hi,rfl⟩
  rw [show l.getD i (0,0)=l[i] by simp [hi]]
  exact List.getElem_mem hi
 ·intro h
  obtain ⟨i,hi,e⟩:=List.getElem_of_mem h
  exact ⟨i,hi,by simp [hi,e]⟩
theorem Holds.push {lb l' ls:List Sc} {x:Sc} (h:Holds lb ls) (hx:x∉ls) (hs:Same (lb++[x]) l' (lb.length+1)):Holds l' (ls++[x]):=by
 have hl:(lb++[x]).length=lb.length+1:=by simp
 have hl':l'.length=lb.length+1:=hs.1.trans hl
 refine ⟨by rw [hl',h.1];simp,fun z=> ?_, ?_⟩
 ·rw [hl',hs.2.1 z,←hl,mem_getD,List.mem_append,List.mem_append,←h.2.1 z,mem_getD]
 ·rw [hl']
  refine hs.2.2 (fun i j hi hj e=> ?_)
  rcases Nat.lt_or_ge i lb.length with h1|h1 <;> rcases Nat.lt_or_ge j lb.length with h2|h2
  ·rw [getD_snoc_lt h1,getD_snoc_lt h2] at e;exact h.2.2 i j h1 h2 e
  ·rw [getD_snoc_lt h1,show j=lb.length by omega,getD_snoc_eq] at e
   exact absurd ((h.2.1 x).1 ⟨i,h1,e⟩) hx
  ·rw [show i=lb.length by omega,getD_snoc_eq,getD_snoc_lt h2] at e
   exact absurd ((h.2.1 x).1 ⟨j,h2,e.symm⟩) hx
  ·omega
theorem scL_ids {key b:Int} {l:List Bk} {z:Sc} (h:z∈scL key b l):∃i,i < l.length∧(l.getD i (0,0,false)).1=z.1:=by
 unfold scL at h
 obtain ⟨x,hx,e⟩:=List.mem_map.1 h
 obtain ⟨i,hi,e2⟩:=List.getElem_of_mem (List.mem_filter.1 hx).1
 exact ⟨i,hi,by rw [←e];simp [hi,e2]⟩
theorem backs_lt {l:List Bk} (h:backsOkB l=true):∀j,j < l.length→∀i,i < j→(l.getD i (0,0,false)).1 < (l.getD j (0,0,false)).1:=fun j=> by
 induction j with
 |zero=> intro _ i hi;omega
 |succ j ih=>
  intro hj i hi
  have h1:(l.getD j (0,0,false)).1 < (l.getD (j+1) (0,0,false)).1:=by
   have:=backsOkB_iff.1 h (j+1) hj
   unfold okAt at this
   simp only [Bool.and_eq_true,Bool.or_eq_true,decide_eq_true_eq,Nat.add_sub_cancel] at this
   rcases this.2 with h0|h0
   ·omega
   ·exact h0
  rcases Nat.lt_or_ge i j with h2|h2
  ·exact Int.lt_trans (ih (by omega) i h2) h1
  ·rw [show i=j by omega];exact h1
theorem sc_new {key b:Int} {l:List Bk} {j:Nat} {x y:Int} {z:Bool} {s:Int} (h:backsOkB l=true) (hj:j < l.length) (hxy:l.getD j (0,0,false)=(x,y,z)):(x,s)∉scL key b (l.take j):=fun hm=> by
 obtain ⟨i,hi,e⟩:=scL_ids hm
 have hij:i < j:=by simp at hi;omega
 have:=backs_lt h j hj i hij
 rw [hxy] at this
 rw [show (l.take j).getD i (0,0,false)=l.getD i (0,0,false) by simp [List.getD_eq_getElem?_getD,List.getElem?_take,hij]] at e
 dsimp only at e this
 omega
theorem BrdV.kept {k:Nat} {v:Value} {w w':World} {l:List Sc} (h:BrdV k v w l) (hb:Below w.heap.size w w'):BrdV k v w' l:=⟨(hb.block k h.lt).trans h.box,own_kept h.row hb⟩
theorem okAt_back {l:List Bk} {j:Nat} {x y:Int} {z:Bool} (hl:backsOkB l=true) (hj:j < l.length) (hxy:l.getD j (0,0,false)=(x,y,z)):backB x y=true:=by
 have:=backsOkB_iff.1 hl j hj
 unfold okAt at this
 rw [hxy] at this
 exact (Bool.and_eq_true_iff.1 this).1
theorem contestOf_any (key b:Int) (o:Option Addr) (cap:Nat) (l:List Bk) (w:World) (hR:RdK w.heap.size w o l) (hlen:l.length≤1000) (hk:keyB key=true) (hbk:0≤b∧b < 8) (hl:backsOkB l=true):
  Calls Tryz.prog 263 #[.int .i64 key,.int .i64 b,.slice o l.length cap] w fun e w'=> ∃k v lb,e=.returned (.iface 357 (.pointer (some ⟨k,0,none⟩)))∧BrdV k v w' lb∧HeapP lb lb.length∧okD lb∧Holds lb (scL key b l)∧w.heap.size≤k∧Below w.heap.size w w':=by
 go_enter Tryz.func263,Tryz.ntmps263
 go_wp2
 go_loopw [13] (fun iv wr=> ∃(j:Nat) (v:Value) (lb:List Sc),iv=.int .i64 j∧j≤l.length∧BrdV w.heap.size v wr lb∧HeapP lb lb.length∧okD lb∧Holds lb (scL key b (l.take j))∧lb.length≤j∧Below w.heap.size w wr)
  (fun iv _=> l.length - (intOf iv).toNat)
 case atStart=>
  refine ⟨0,.slice none 0 0,[],rfl,Nat.zero_le _,⟨World.alloc_heap_new w _,World.ownsRow_nil _ _ _ _⟩,fun i h1 h2=> by simp at h2,fun i hi=> by simp at hi,⟨rfl,fun z=> by simp [scL],fun i j hi=> by simp at hi⟩,Nat.zero_le _,(Below.refl _ _).alloc (Nat.le_refl _) _⟩
 case round=>
  obtain ⟨j,v,lb,rfl,hj,hb,hh,ho,hhd,hlb,hBr⟩:=hrel
  by_cases hlt:j < l.length
  ·rcases hR with hR|⟨bb,off,rfl,hbl,hcell⟩
   ·subst hR;simp at hlt
   obtain ⟨x,y,z,hxy⟩:∃x y z,l.getD j (0,0,false)=(x,y,z):=⟨_,_,_,rfl⟩
   have hcx:=RdL.back (C:=w.heap.size) hcell j hlt
   rw [hxy] at hcx
   have hc0:wr.cell? ⟨bb,off+j * 3,none⟩=some (.int .i64 x):=(hBr.cell (p:=⟨bb,off+j * 3,none⟩) hbl).trans hcx.1
   have hc1:wr.cell? ⟨bb,off+j * 3+1,none⟩=some (.int .i64 y):=(hBr.cell (p:=⟨bb,off+j * 3+1,none⟩) hbl).trans hcx.2.1
   have hc2:wr.cell? ⟨bb,off+j * 3+2,none⟩=some (.bool z):=(hBr.cell (p:=⟨bb,off+j * 3+2,none⟩) hbl).trans hcx.2.2
   have hts:=takeL_succ layK l j hlt
   rw [show l.getD j layK.d=l.getD j (0,0,false) from rfl,hxy] at hts
   have hbb:=okAt_back hl hlt hxy
   obtain ⟨i0,i1,g0,g1⟩:=backB_iff.1 hbb
   have hnew:=sc_new (key:=key) (b:=b) (s:=scoreI key b x y) hl hlt hxy
   clear hcell hcx hxy
   cases z with
   |true=>
    have HH:=hide (show Holds lb (scL key b (l.take (j+1))) by rw [hts,scL_snoc_no _ _ _ _ rfl];exact hhd)
    have HB:=hide hb
    have HBr:=hide hBr
    clear hts hhd hb hBr hnew
    go_wp2
    go_roundw
    case rel=> exact ⟨j+1,v,lb,by go_num,by omega,HB.out.kept ((Below.refl _ _).alloc (Nat.le_refl _) _),hh,ho,HH.out,by omega,HBr.out.alloc HBr.out.size _⟩
    case measure=> simp [intOf];omega
   |false=>
    have hso:scoreOfI key b x y=scoreI key b x y:=by rw [scoreOfI,if_pos ⟨hk,hbk,hbb⟩]
    have hsc:=fun W=> hso ▸ implScore_any key b x y false W
    obtain ⟨p0,p1,p2⟩:=box3 wr (.int .i64 x) (.int .i64 y) (.bool false) 226
    have hs:wr.heap.size < (wr.alloc (Obj.cells #[Value.int IntKind.i64 x,Value.int IntKind.i64 y,Value.bool false] 226)).heap.size:=by simp
    have hb0:BrdV w.heap.size v (wr.alloc (Obj.cells #[Value.int IntKind.i64 x,Value.int IntKind.i64 y,Value.bool false] 226)) lb:=hb.kept ((Below.refl _ _).alloc (Nat.le_refl _) _)
    have hB0:Below w.heap.size w (wr.alloc (Obj.cells #[Value.int IntKind.i64 x,Value.int IntKind.i64 y,Value.bool false] 226)):=hBr.alloc hBr.size _
    have HH:=hide (fun l2 (h2:Same (lb++[(x,scoreI key b x y)]) l2 (lb.length+1))=> (show Holds l2 (scL key b (l.take (j+1))) by rw [hts,scL_snoc_yes _ _ _ _ rfl];exact hhd.push hnew h2))
    have HL:=hide (fun l2 (h2:Same (lb++[(x,scoreI key b x y)]) l2 (lb.length+1))=> (show l2.length≤j+1 by rw [h2.1];simp;omega))
    clear hts hhd hnew
    go_wp2_with fail
    clear hc0 hc1 hc2
    generalize (wr.alloc (Obj.cells #[Value.int IntKind.i64 x,Value.int IntKind.i64 y,Value.bool false] 226))=w0 at *
    have HB0:=hide hb0
    have HBB:=hide hB0
    generalize hscg:scoreI key b x y=sc at *
    clear hb0 hB0 hb hBr hscg hso
    go_region_with (first|(go_at_call 269;refine (hsc _).mono ?_;rintro e w1 ⟨rfl,hb1⟩;replace hb1:Below w0.heap.size w0 w1:=(Below.drew (Below.refl _ _)).trans hb1;have q0:=(hb1.cell (p:=⟨wr.heap.size,0,none⟩) hs).trans p0;have q1:=(hb1.cell (p:=⟨wr.heap.size,1,none⟩) hs).trans p1;have q2:=(hb1.cell (p:=⟨wr.heap.size,2,none⟩) hs).trans p2)|(go_at_call 268;refine (pushH_any w.heap.size v lb x sc w1 (HB0.out.kept hb1) ho ⟨i0,by omega⟩ hh (by omega)).mono ?_;rintro e w2 ⟨rfl,g2,c2,l2,hb2,hh2,hs2,ho2,hB2⟩))
    all_goals (
     go_wp2
     go_roundw
     case rel=> exact ⟨j+1,_,l2,by go_num,by omega,hb2.v,hh2,ho2,HH.out l2 hs2,HL.out l2 hs2,(HBB.out.trans (hb1.mono HBB.out.size)).trans hB2⟩
     case measure=> simp [intOf];omega)
  ·have e:j=l.length:=by omega
   subst e
   rw [List.take_of_length_le (Nat.le_refl _)] at hhd
   go_wp2
   go_ret
   exact ⟨_,v,lb,rfl,hb,hh,ho,hhd,Nat.le_refl _,hBr⟩
theorem bestId_any (o:Option Addr) (c C:Nat) (l:List Sc) (w:World) (hR:RdL layD C w o l) (h0:0 < l.length):
  Calls Tryz.prog 300 #[.slice o l.length c] w fun e w'=> e=.returned (.int .i64 (l.getD 0 (0,0)).1)∧w=w':=by
 rcases hR with hR|⟨b,off,rfl,hbl,hcell⟩
 ·subst hR;simp at h0
 have hc:=RdL.sc hcell 0 h0
 clear hcell
 generalize l.getD 0 (0,0)=x at *
 obtain ⟨x1,x2⟩:=x
 simp only [Nat.zero_mul,Nat.add_zero] at hc
 obtain ⟨c0,c1⟩:=hc
 have z:(0:Int) < (l.length:Int):=by omega
 go_enter Tryz.func300,Tryz.ntmps300
 go_wp2
 go_ret
 exact ⟨rfl,rfl⟩
def TwoOf (lb:List Sc) (p:List Int):Prop:=
 (lb=[]∧p=[])∨(lb.length=1∧p=[(lb.getD 0 (0,0)).1,(lb.getD 0 (0,0)).1])∨
 ∃l2,Rest lb l2∧HeapP l2 l2.length∧0 < l2.length∧p=[(lb.getD 0 (0,0)).1,(l2.getD 0 (0,0)).1]
theorem ownI_lit (w:World) (base:Nat) (x y:Int) (hb:base≤w.heap.size):ownI (w.alloc (.cells #[.int .i64 x,.int .i64 y] 3)) base (.slice (some ⟨w.heap.size,0,none⟩) 2 2) [x,y]:=by
 have:=World.ownsRow_lit (base:=base) (e:=3) (size:=1) w #[.int .i64 x,.int .i64 y] 2 hb (by unfold maxLen;omega) rfl
 exact this
theorem twoBest_any (k:Nat) (v:Value) (lb:List Sc) (w:World) (hb:BrdV k v w lb) (hh:HeapP lb lb.length) (ho:okD lb) (hlen:lb.length≤1000):
  Calls Tryz.prog 262 #[.iface 357 (.pointer (some ⟨k,0,none⟩))] w fun e w'=> ∃v' p,e=.returned v'∧TwoOf lb p∧ownI w' k v' p∧Below k w w':=by
 have eN:∀args w,(callFunc 295 args).run Tryz.prog w=.ok (.enter 295 args) w:=enters_of Tryz.func295 (by kernel_rfl) rfl
 have eB:∀args w,(callFunc 300 args).run Tryz.prog w=.ok (.enter 300 args) w:=enters_of Tryz.func300 (by kernel_rfl) rfl
 obtain ⟨o,c,rfl⟩:=hb.slice
 have hc:=hb.cell
 have mN:=finds_val' methLen hc
 have hklt:=hb.lt
 by_cases h0:lb.length=0
 ·have e:lb=[]:=List.eq_nil_of_length_eq_zero h0
  subst e
  simp only [List.length_nil] at mN
  go_enter Tryz.func262,Tryz.ntmps262
  go_wp2_with (first|(go_at_call 295;refine (sbLen_any _ _ _ _).mono ?_;rintro e w2 ⟨rfl,rfl⟩))
  go_ret
  exact ⟨_,[],rfl,.inl ⟨rfl,rfl⟩,World.ownsRow_nil _ _ _ _,Below.refl _ _⟩
 ·have hpos:0 < lb.length:=by omega
  have hn0:((lb.length:Int)==0)=false:=by rw [beq_eq_false_iff_ne];omega
  have HN0:=hide h0
  obtain ⟨g,c1,he⟩:=ownsRow_form hb.row hpos
  simp only [Value.slice.injEq] at he
  obtain ⟨rfl,_,rfl⟩:=he
  have hB:Brd k g c w lb:=⟨hb.box,hb.row⟩
  have hrd:=hB.row.rd
  obtain ⟨n,hn⟩:∃n,n+1=lb.length:=⟨lb.length - 1,by omega⟩
  have hpop:=popH_any k g c lb n w hB hn ho hh (by omega)
  have hbest:=bestId_any (some ⟨g,0,none⟩) c w.heap.size lb w hrd hpos
  generalize hfst:(lb.getD 0 (0,0)).1=fst at hbest
  have HF:=hide hfst
  clear h0 hn hfst
  go_enter Tryz.func262,Tryz.ntmps262
  go_wp2_with (first|(go_at_call 295;refine (sbLen_any _ _ _ _).mono ?_;rintro e w2 ⟨rfl,rfl⟩))
  rw [finds_val' (f:=300) ?hm hc]
  case hm=> kernel_rfl
  go_wp2_with (first|(go_at_call 300;refine hbest.mono ?_;rintro e w2 ⟨rfl,rfl⟩))
  refine hpop.mono ?_
  rintro e w3 ⟨⟨v3,rfl⟩,l2,hb3,hh3,hr3,ho3,hB3⟩
  have hk3:=hb3.v.lt
  have hl2:l2.length≤1000:=by have:=hr3.1;omega
  have mN3:=finds_val' methLen hb3.cell
  clear mN hpop hbest hrd hb hB hc
  by_cases h2:l2.length=0
  ·have e:l2=[]:=List.eq_nil_of_length_eq_zero h2
   subst e
   simp only [List.length_nil] at mN3
   have HT:Hid (TwoOf lb [fst,fst]):=.inr (.inl ⟨by have:=hr3.1;simpa using this.symm,by rw [HF.out]⟩)
   have HO:=hide (ownI_lit w3 k fst fst (by omega))
   have HB:=hide hB3
   clear hr3 hh3 ho3 hB3 HF
   go_wp2_with (first|(go_at_call 295;refine (sbLen_any _ _ _ _).mono ?_;rintro e w2 ⟨rfl,rfl⟩))
   go_ret
   exact ⟨_,[fst,fst],rfl,HT.out,HO.out,HB.out.alloc (by omega) _⟩
  ·have hpos2:0 < l2.length:=by omega
   have hn2:((l2.length:Int)==0)=false:=by rw [beq_eq_false_iff_ne];omega
   have hc3:=hb3.cell
   have hbest2:=bestId_any (some ⟨g,0,none⟩) c w3.heap.size l2 w3 hb3.row.rd hpos2
   have HT:Hid (TwoOf lb [fst,(l2.getD 0 (0,0)).1]):=.inr (.inr ⟨l2,hr3,hh3,hpos2,by rw [HF.out]⟩)
   generalize (l2.getD 0 (0,0)).1=snd at *
   have HO:=hide (ownI_lit w3 k fst snd (by omega))
   have HB:=hide hB3
   clear hr3 hh3 ho3 hB3 HF h2
   go_wp2_with (first|(go_at_call 295;refine (sbLen_any _ _ _ _).mono ?_;rintro e w2 ⟨rfl,rfl⟩))
   rw [finds_val' (f:=300) ?hm2 hc3]
   case hm2=> kernel_rfl
   go_wp2_with (first|(go_at_call 300;refine hbest2.mono ?_;rintro e w2 ⟨rfl,rfl⟩))
   go_ret
   exact ⟨_,[fst,snd],rfl,HT.out,HO.out,HB.out.alloc (by omega) _⟩
def pickStep (p:Option Sc × Option Sc) (x:Sc):Option Sc × Option Sc:=
 match p with
 |(none,t)=> (some x,none)
 |(some o,t)=> if o.2 < x.2 then (some x,some o) else
  match t with
  |none=> (some o,some x)
  |some u=> if u.2 < x.2 then (some o,some x) else (some o,some u)
def pick (l:List Sc):Option Sc × Option Sc:=l.foldl pickStep (none,none)
theorem pick_snoc (l:List Sc) (x:Sc):pick (l++[x])=pickStep (pick l) x:=by simp [pick]
def pairL (p:Option Sc × Option Sc):List Int:=
 match p with
 |(none,_)=> []
 |(some o,none)=> [o.1,o.1]
 |(some o,some t)=> [o.1,t.1]
def Best (l:List Sc) (p:Option Sc × Option Sc):Prop:=
 match p with
 |(none,t)=> l=[]∧t=none
 |(some o,none)=> l=[o]
 |(some o,some t)=> o∈l∧t∈l∧t≠o∧(∀z∈l,rank o≤rank z)∧(∀z∈l,z≠o→rank t≤rank z)
theorem rank_lt {o x:Sc} (ho:okS o) (hx:okS x) (h:o.2 < x.2):rank x < rank o:=by unfold rank okS at *;omega
theorem rank_gt {o x:Sc} (ho:okS o) (hx:okS x) (hid:o.1 < x.1) (h:¬o.2 < x.2):rank o < rank x:=by unfold rank okS at *;omega
theorem rank_inj {a b:Sc} (ha:okS a) (hb:okS b) (h:rank a=rank b):a=b:=by
 obtain ⟨a1,a2⟩:=a
 obtain ⟨b1,b2⟩:=b
 unfold rank okS at *
 dsimp only at *
 have h1:a2=b2:=by omega
 have h2:a1=b1:=by omega
 rw [h1,h2]
theorem best_step {l:List Sc} {p:Option Sc × Option Sc} {x:Sc} (h:Best l p) (hok:∀z∈l,okS z) (hx:okS x) (hid:∀z∈l,z.1 < x.1):Best (l++[x]) (pickStep p x):=by
 have hne:∀z∈l,z≠x:=fun z hz e=> by have:=hid z hz;rw [e] at this;omega
 obtain ⟨p1,p2⟩:=p
 cases p1 with
 |none=>
  obtain ⟨h1,h2⟩:l=[]∧p2=none:=h
  subst h1 h2
  rfl
 |some o=>
  cases p2 with
  |none=>
   have h1:l=[o]:=h
   subst h1
   have oo:=hok o (by simp)
   have oi:=hid o (by simp)
   unfold pickStep
   by_cases hlt:o.2 < x.2
   ·simp only [if_pos hlt]
    have:=rank_lt oo hx hlt
    refine ⟨by simp,by simp,fun e=> hne o (by simp) e,fun z hz=> ?_,fun z hz hzx=> ?_⟩
    ·simp at hz;rcases hz with e|e <;> subst e <;> omega
    ·simp at hz;rcases hz with e|e
     ·subst e;omega
     ·exact absurd e hzx
   ·simp only [if_neg hlt]
    have:=rank_gt oo hx oi hlt
    refine ⟨by simp,by simp,fun e=> hne o (by simp) e.symm,fun z hz=> ?_,fun z hz hzo=> ?_⟩
    ·simp at hz;rcases hz with e|e <;> subst e <;> omega
    ·simp at hz;rcases hz with e|e
     ·exact absurd e hzo
     ·subst e;omega
  |some t=>
   obtain ⟨ho,ht,hto,hmin,hmin2⟩:o∈l∧t∈l∧t≠o∧(∀z∈l,rank o≤rank z)∧(∀z∈l,z≠o→rank t≤rank z):=h
   have oo:=hok o ho
   have ot:=hok t ht
   have oi:=hid o ho
   have ti:=hid t ht
   unfold pickStep
   by_cases hlt:o.2 < x.2
   ·simp only [if_pos hlt]
    have hr:=rank_lt oo hx hlt
    refine ⟨by simp,List.mem_append.2 (.inl ho),hne o ho,fun z hz=> ?_,fun z hz hzx=> ?_⟩
    ·rcases List.mem_append.1 hz with hz|hz
     ·have:=hmin z hz;omega
     ·simp at hz;subst hz;omega
    ·rcases List.mem_append.1 hz with hz|hz
     ·exact hmin z hz
     ·simp at hz;exact absurd hz hzx
   ·simp only [if_neg hlt]
    have hr:=rank_gt oo hx oi hlt
    by_cases hlt2:t.2 < x.2
    ·simp only [if_pos hlt2]
     have hr2:=rank_lt ot hx hlt2
     refine ⟨List.mem_append.2 (.inl ho),by simp,fun e=> hne o ho e.symm,fun z hz=> ?_,fun z hz hzo=> ?_⟩
     ·rcases List.mem_append.1 hz with hz|hz
      ·exact hmin z hz
      ·simp at hz;subst hz;omega
     ·rcases List.mem_append.1 hz with hz|hz
      ·have:=hmin2 z hz hzo;omega
      ·simp at hz;subst hz;omega
    ·simp only [if_neg hlt2]
     have hr2:=rank_gt ot hx ti hlt2
     refine ⟨List.mem_append.2 (.inl ho),List.mem_append.2 (.inl ht),hto,fun z hz=> ?_,fun z hz hzo=> ?_⟩
     ·rcases List.mem_append.1 hz with hz|hz
      ·exact hmin z hz
      ·simp at hz;subst hz;omega
     ·rcases List.mem_append.1 hz with hz|hz
      ·exact hmin2 z hz hzo
      ·simp at hz;subst hz;omega
theorem two_pair {lb ls:List Sc} {p:Option Sc × Option Sc} {q:List Int} (hB:Best ls p) (hok:∀z∈ls,okS z) (hH:Holds lb ls) (hh:HeapP lb lb.length) (hT:TwoOf lb q):q=pairL p:=by
 have hm:=hH.2.1
 obtain ⟨p1,p2⟩:=p
 rcases hT with ⟨h1,h2⟩|⟨h1,h2⟩|⟨l2,hr,hh2,hpos,h2⟩
 ·subst h1 h2
  have:ls=[]:=List.eq_nil_of_length_eq_zero hH.1.symm
  subst this
  cases p1 with
  |none=> rfl
  |some o=>
   cases p2 with
   |none=> cases (hB:[]=[o])
   |some t=> exact absurd hB.1 (by simp)
 ·obtain ⟨o,ho⟩:∃o,ls=[o]:=List.length_eq_one_iff.1 (hH.1.symm.trans h1)
  subst ho
  have e0:lb.getD 0 (0,0)=o:=by
   have:=(hm (lb.getD 0 (0,0))).1 ⟨0,by omega,rfl⟩
   simpa using this
  rw [h2,e0]
  cases p1 with
  |none=> cases (hB.1:[o]=[])
  |some o'=>
   cases p2 with
   |none=> have:[o]=[o']:=hB;simp at this;subst this;rfl
   |some t=>
    obtain ⟨a1,a2,a3,_⟩:o'∈[o]∧t∈[o]∧t≠o'∧_:=hB
    simp at a1 a2;rw [a1,a2] at a3;exact absurd rfl a3
 ·have hl2:=hr.1
  have hd:=hH.2.2
  have m0:lb.getD 0 (0,0)∈ls:=(hm _).1 ⟨0,by omega,rfl⟩
  have top:∀z∈ls,rank (lb.getD 0 (0,0))≤rank z:=fun z hz=> by
   obtain ⟨i,hi,e⟩:=(hm z).2 hz
   have:=heap_top hh i hi
   unfold fr at this
   rw [e] at this;exact this
  obtain ⟨i2,hi2a,hi2b,ei2⟩:=(hr.2 (l2.getD 0 (0,0))).1 ⟨0,hpos,rfl⟩
  have m2:l2.getD 0 (0,0)∈ls:=(hm _).1 ⟨i2,hi2b,ei2⟩
  have ne2:l2.getD 0 (0,0)≠lb.getD 0 (0,0):=fun e=> by
   have:=hd i2 0 hi2b (by omega) (ei2.trans e);omega
  have top2:∀z∈ls,z≠lb.getD 0 (0,0)→rank (l2.getD 0 (0,0))≤rank z:=fun z hz hne=> by
   obtain ⟨i,hi,e⟩:=(hm z).2 hz
   have hi1:1≤i:=by
    rcases Nat.eq_zero_or_pos i with h|h
    ·subst h;exact absurd e.symm hne
    ·exact h
   obtain ⟨i',hi',e'⟩:=(hr.2 z).2 ⟨i,hi1,hi,e⟩
   have:=heap_top hh2 i' hi'
   unfold fr at this
   rw [e'] at this;exact this
  cases p1 with
  |none=> have:ls=[]:=hB.1;rw [this] at m0;cases m0
  |some o=>
   cases p2 with
   |none=>
    have h1:ls=[o]:=hB
    rw [h1] at m0 m2
    simp at m0 m2
    exact absurd (m2.trans m0.symm) ne2
   |some t=>
    obtain ⟨ho,ht,hto,hmin,hmin2⟩:o∈ls∧t∈ls∧t≠o∧(∀z∈ls,rank o≤rank z)∧(∀z∈ls,z≠o→rank t≤rank z):=hB
    have e0:lb.getD 0 (0,0)=o:=rank_inj (hok _ m0) (hok o ho) (Int.le_antisymm (top o ho) (hmin _ m0))
    rw [e0] at ne2 top2
    have e2:l2.getD 0 (0,0)=t:=rank_inj (hok _ m2) (hok t ht) (Int.le_antisymm (top2 t ht hto) (hmin2 _ m2 ne2))
    rw [h2,e0,e2]
    rfl
def scOf (key b:Int) (x:Bk):Sc:=(x.1,scoreI key b x.1 x.2.1)
def IdxOf (key b:Int) (l:List Bk) (v:Int) (q:Option Sc):Prop:=(v= -1∧q=none)∨∃k:Nat,v=(k:Int)∧k < l.length∧q=some (scOf key b (l.getD k (0,0,false)))
theorem pick_next {key b:Int} {l:List Bk} {j:Nat} {x y:Int} (hlt:j < l.length) (hxy:l.getD j (0,0,false)=(x,y,false)):pick (scL key b (l.take (j+1)))=pickStep (pick (scL key b (l.take j))) (scOf key b (x,y,false)):=by
 have hts:=takeL_succ layK l j hlt
 rw [show l.getD j layK.d=l.getD j (0,0,false) from rfl,hxy] at hts
 rw [hts,scL_snoc_yes _ _ _ _ rfl,pick_snoc];rfl
theorem pick_skip {key b:Int} {l:List Bk} {j:Nat} {x y:Int} (hlt:j < l.length) (hxy:l.getD j (0,0,false)=(x,y,true)):pick (scL key b (l.take (j+1)))=pick (scL key b (l.take j)):=by
 have hts:=takeL_succ layK l j hlt
 rw [show l.getD j layK.d=l.getD j (0,0,false) from rfl,hxy] at hts
 rw [hts,scL_snoc_no _ _ _ _ rfl]
theorem backs_all {l:List Bk} (h:backsOkB l=true) {k:Nat} (hk:k < l.length) {x y:Int} {z:Bool} (hxy:l.getD k (0,0,false)=(x,y,z)):0≤x∧x < 6∧1≤y∧y≤100:=backB_iff.1 (okAt_back h hk hxy)
theorem l3pair_any (key b:Int) (o:Option Addr) (cap:Nat) (l:List Bk) (w:World) (hR:RdK w.heap.size w o l) (hlen:l.length≤1000) (hk:keyB key=true) (hbk:0≤b∧b < 8) (hl:backsOkB l=true):
  Calls Tryz.prog 222 #[.int .i64 key,.int .i64 b,.slice o l.length cap] w fun e w'=> ∃v,e=.returned v∧ownI w' w.heap.size v (pairL (pick (scL key b l)))∧Below w.heap.size w w':=by
 obtain ⟨hk1,hk2⟩:=keyB_iff.1 hk
 have hsc:=fun k (hk:k < l.length) x y z (hxy:l.getD k (0,0,false)=(x,y,z)) W=> have h:=backs_all hl hk hxy;l3score_any key b x y z W hk1 hk2 hbk.1 hbk.2 h.1 h.2.1 (by omega) h.2.2.2
 have HSC:=hide hsc
 clear hsc
 go_enter Tryz.func222,Tryz.ntmps222
 go_wp2
 go_loopw [7,8,9] (fun one two iv wr=> ∃(j:Nat) (v1 v2:Int),iv=.int .i64 j∧one=.int .i64 v1∧two=.int .i64 v2∧j≤l.length∧IdxOf key b l v1 (pick (scL key b (l.take j))).1∧IdxOf key b l v2 (pick (scL key b (l.take j))).2∧Below w.heap.size w wr)
  (fun _ _ iv _=> l.length - (intOf iv).toNat)
 case atStart=> exact ⟨0, -1, -1,rfl,rfl,rfl,Nat.zero_le _,.inl ⟨rfl,by simp [scL,pick]⟩,.inl ⟨rfl,by simp [scL,pick]⟩,Below.refl _ _⟩
 case round=>
  obtain ⟨j,v1,v2,rfl,rfl,rfl,hj,hi1,hi2,hBr⟩:=hrel
  by_cases hlt:j < l.length
  ·rcases hR with hR|⟨bb,off,rfl,hbl,hcell⟩
   ·subst hR;simp at hlt
   have HC:=hide (fun k (hk:k < l.length) W (hW:Below w.heap.size w W)=> have h:=RdL.back (C:=w.heap.size) hcell k hk;(show W.cell? ⟨bb,off+k * 3,none⟩=some (.int .i64 (l.getD k (0,0,false)).1)∧W.cell? ⟨bb,off+k * 3+1,none⟩=some (.int .i64 (l.getD k (0,0,false)).2.1)∧W.cell? ⟨bb,off+k * 3+2,none⟩=some (.bool (l.getD k (0,0,false)).2.2) from ⟨(hW.cell (p:=⟨bb,off+k * 3,none⟩) hbl).trans h.1,(hW.cell (p:=⟨bb,off+k * 3+1,none⟩) hbl).trans h.2.1,(hW.cell (p:=⟨bb,off+k * 3+2,none⟩) hbl).trans h.2.2⟩))
   clear hcell
   have hcx:=HC.out j hlt wr hBr
   obtain ⟨x,y,z,hxy⟩:∃x y z,l.getD j (0,0,false)=(x,y,z):=⟨_,_,_,rfl⟩
   rw [hxy] at hcx
   dsimp only at hcx
   obtain ⟨c0,c1,c2⟩:=hcx
   have z1:(j:Int) < (l.length:Int):=by omega
   cases z with
   |true=>
    have HP:=hide (pick_skip (key:=key) (b:=b) hlt hxy)
    have HB:=hide hBr
    have H1:=hide hi1
    have H2:=hide hi2
    clear hxy hBr hi1 hi2
    go_wp2
    go_roundw
    case rel=> exact ⟨j+1,v1,v2,by go_num,rfl,rfl,by omega,by rw [HP.out];exact H1.out,by rw [HP.out];exact H2.out,HB.out⟩
    case measure=> simp [intOf];omega
   |false=>
    have HP:=hide (pick_next (key:=key) (b:=b) hlt hxy)
    have hsI:=HSC.out j hlt x y false hxy
    have HJ:Hid (IdxOf key b l (j:Int) (some (scOf key b (x,y,false)))):=.inr ⟨j,rfl,hlt,by rw [hxy]⟩
    generalize hg:scOf key b (x,y,false)=sx at *
    obtain ⟨sid,sc⟩:=sx
    have hscx:scoreI key b x y=sc:=by simp [scOf] at hg;exact hg.2
    rw [hscx] at hsI
    have HB:=hide hBr
    clear hxy hBr hg hscx
    generalize pick (scL key b (l.take j))=pp at *
    obtain ⟨p1,p2⟩:=pp
    dsimp only at hi1 hi2
    rcases hi1 with ⟨rfl,rfl⟩|⟨k1,rfl,hk1l,rfl⟩
    ·go_wp2_with fail
     refine (hsI wr).mono ?_
     rintro e w1 ⟨rfl,hb1⟩
     have HB1:=hide (HB.out.trans (hb1.mono HB.out.size))
     clear c0 c1 c2 hsI hb1 hi2
     go_wp2
     go_roundw
     case rel=> exact ⟨j+1,j, -1,by go_num,rfl,rfl,by omega,by rw [HP.out];exact HJ.out,by rw [HP.out];exact .inl ⟨rfl,rfl⟩,HB1.out⟩
     case measure=> simp [intOf];omega
    ·obtain ⟨x1,y1,t1,hxy1⟩:∃x y z,l.getD k1 (0,0,false)=(x,y,z):=⟨_,_,_,rfl⟩
     have hs1:=HSC.out k1 hk1l x1 y1 t1 hxy1
     have HI1:Hid (IdxOf key b l (k1:Int) (some (scOf key b (x1,y1,t1)))):=.inr ⟨k1,rfl,hk1l,by rw [hxy1]⟩
     have HC1:=HC.out k1 hk1l
     rw [hxy1] at HP HC1
     dsimp only at HC1
     generalize hg1:scOf key b (x1,y1,t1)=s1 at *
     obtain ⟨id1,sc1⟩:=s1
     have hsc1:scoreI key b x1 y1=sc1:=by simp [scOf] at hg1;exact hg1.2
     rw [hsc1] at hs1
     have z2:(k1:Int) < (l.length:Int):=by omega
     have z3:¬((k1:Int) < 0):=by omega
     have HCC1:=hide HC1
     clear hxy1 hg1 hsc1 HC1
     go_wp2_with fail
     refine (hsI wr).mono ?_
     rintro e w1 ⟨rfl,hb1⟩
     have HB1:=hide (HB.out.trans (hb1.mono HB.out.size))
     obtain ⟨d0,d1,d2⟩:=HCC1.out w1 HB1.out
     clear c0 c1 c2 hsI hb1
     go_wp2_with fail
     refine (hs1 w1).mono ?_
     rintro e w2 ⟨rfl,hb2⟩
     have HB2:=hide (HB1.out.trans (hb2.mono HB1.out.size))
     clear d0 d1 d2 hs1 hb2
     by_cases hgt:sc1 < sc
     ·have HE:Hid (pickStep (some (id1,sc1),p2) (sid,sc)=(some (sid,sc),some (id1,sc1))):=by simp [pickStep,hgt,Hid]
      clear hi2
      go_wp2
      go_roundw
      case rel=> exact ⟨j+1,j,k1,by go_num,rfl,rfl,by omega,by rw [HP.out,HE.out];exact HJ.out,by rw [HP.out,HE.out];exact HI1.out,HB2.out⟩
      case measure=> simp [intOf];omega
     ·rcases hi2 with ⟨rfl,rfl⟩|⟨k2,rfl,hk2l,rfl⟩
      ·have HE:Hid (pickStep (some (id1,sc1),none) (sid,sc)=(some (id1,sc1),some (sid,sc))):=by simp [pickStep,hgt,Hid]
       go_wp2
       go_roundw
       case rel=> exact ⟨j+1,k1,j,by go_num,rfl,rfl,by omega,by rw [HP.out,HE.out];exact HI1.out,by rw [HP.out,HE.out];exact HJ.out,HB2.out⟩
       case measure=> simp [intOf];omega
      ·obtain ⟨x2,y2,t2,hxy2⟩:∃x y z,l.getD k2 (0,0,false)=(x,y,z):=⟨_,_,_,rfl⟩
       have hs2:=HSC.out k2 hk2l x2 y2 t2 hxy2
       have HI2:Hid (IdxOf key b l (k2:Int) (some (scOf key b (x2,y2,t2)))):=.inr ⟨k2,rfl,hk2l,by rw [hxy2]⟩
       have HC2:=HC.out k2 hk2l
       rw [hxy2] at HP HC2
       dsimp only at HC2
       generalize hg2:scOf key b (x2,y2,t2)=s2 at *
       obtain ⟨id2,sc2⟩:=s2
       have hsc2:scoreI key b x2 y2=sc2:=by simp [scOf] at hg2;exact hg2.2
       rw [hsc2] at hs2
       have z4:(k2:Int) < (l.length:Int):=by omega
       have z5:¬((k2:Int) < 0):=by omega
       obtain ⟨f0,f1,f2⟩:=HC2 w2 HB2.out
       clear hxy2 hg2 hsc2 HC2
       go_wp2_with fail
       refine (hs2 w2).mono ?_
       rintro e w3 ⟨rfl,hb3⟩
       have HB3:=hide (HB2.out.trans (hb3.mono HB2.out.size))
       clear f0 f1 f2 hs2 hb3
       by_cases hgt2:sc2 < sc
       ·have HE:Hid (pickStep (some (id1,sc1),some (id2,sc2)) (sid,sc)=(some (id1,sc1),some (sid,sc))):=by unfold Hid;simp only [pickStep,if_neg (show ¬sc1 < sc by omega),if_pos hgt2]
        go_wp2
        go_roundw
        case rel=> exact ⟨j+1,k1,j,by go_num,rfl,rfl,by omega,by rw [HP.out,HE.out];exact HI1.out,by rw [HP.out,HE.out];exact HJ.out,HB3.out⟩
        case measure=> simp [intOf];omega
       ·have HE:Hid (pickStep (some (id1,sc1),some (id2,sc2)) (sid,sc)=(some (id1,sc1),some (id2,sc2))):=by unfold Hid;simp only [pickStep,if_neg (show ¬sc1 < sc by omega),if_neg (show ¬sc2 < sc by omega)]
        go_wp2
        go_roundw
        case rel=> exact ⟨j+1,k1,k2,by go_num,rfl,rfl,by omega,by rw [HP.out,HE.out];exact HI1.out,by rw [HP.out,HE.out];exact HI2.out,HB3.out⟩
        case measure=> simp [intOf];omega
  ·have e:j=l.length:=by omega
   subst e
   rw [List.take_of_length_le (Nat.le_refl _)] at hi1 hi2
   have HQ:=hide (show pick (scL key b l)=((pick (scL key b l)).1,(pick (scL key b l)).2) from rfl)
   generalize (pick (scL key b l)).1=p1 at *
   generalize (pick (scL key b l)).2=p2 at *
   have HB:=hide hBr
   have z0:¬(l.length:Int) < (l.length:Int):=by omega
   rcases hi1 with ⟨rfl,rfl⟩|⟨k1,rfl,hk1l,rfl⟩
   ·clear hBr hi2
    go_wp2
    go_ret
    exact ⟨_,rfl,by rw [HQ.out];exact World.ownsRow_nil _ _ _ _,HB.out⟩
   ·rcases hR with hR|⟨bb,off,rfl,hbl,hcell⟩
    ·subst hR;simp at hk1l
    have h1:=RdL.back (C:=w.heap.size) hcell k1 hk1l
    have c1:=(hBr.cell (p:=⟨bb,off+k1 * 3,none⟩) hbl).trans h1.1
    have z2:(k1:Int) < (l.length:Int):=by omega
    have z3:¬((k1:Int) < 0):=by omega
    have HI1:Hid ((scOf key b (l.getD k1 (0,0,false))).1=(l.getD k1 (0,0,false)).1):=rfl
    generalize scOf key b (l.getD k1 (0,0,false))=s1 at *
    rcases hi2 with ⟨rfl,rfl⟩|⟨k2,rfl,hk2l,rfl⟩
    ·have HO:=hide (fun W (hW:w.heap.size≤W.heap.size)=> ownI_lit W w.heap.size (l.getD k1 (0,0,false)).1 (l.getD k1 (0,0,false)).1 hW)
     have HPL:Hid (pairL (pick (scL key b l))=[(l.getD k1 (0,0,false)).1,(l.getD k1 (0,0,false)).1]):=by unfold Hid;rw [HQ.out];show [s1.1,s1.1]=_;rw [HI1.out]
     generalize (l.getD k1 (0,0,false)).1=x1 at *
     have hsz:=HB.out.size
     clear hBr hcell h1
     go_wp2
     go_region
     all_goals go_wp2
     all_goals go_ret
     all_goals exact ⟨_,rfl,by rw [HPL.out];exact (HO.out wr hsz).drew,(HB.out.alloc hsz _).drew⟩
    ·have h2:=RdL.back (C:=w.heap.size) hcell k2 hk2l
     have c2:=(hBr.cell (p:=⟨bb,off+k2 * 3,none⟩) hbl).trans h2.1
     have z4:(k2:Int) < (l.length:Int):=by omega
     have z5:¬((k2:Int) < 0):=by omega
     have HO:=hide (fun W (hW:w.heap.size≤W.heap.size)=> ownI_lit W w.heap.size (l.getD k1 (0,0,false)).1 (l.getD k2 (0,0,false)).1 hW)
     have HPL:Hid (pairL (pick (scL key b l))=[(l.getD k1 (0,0,false)).1,(l.getD k2 (0,0,false)).1]):=by unfold Hid;rw [HQ.out];show [s1.1,(scOf key b (l.getD k2 (0,0,false))).1]=_;rw [HI1.out];rfl
     generalize (l.getD k1 (0,0,false)).1=x1 at *
     generalize (l.getD k2 (0,0,false)).1=x2 at *
     have hsz:=HB.out.size
     clear hBr hcell h1 h2
     go_wp2
     go_region
     all_goals go_wp2
     all_goals go_ret
     all_goals exact ⟨_,rfl,by rw [HPL.out];exact (HO.out wr hsz).drew,(HB.out.alloc hsz _).drew⟩
def pairI (key b:Int) (l:List Bk):List Int:=if keyB key=true∧(0≤b∧b < 8)∧backsOkB l=true then pairL (pick (scL key b l)) else []
theorem pairI_len (key b:Int) (l:List Bk):(pairI key b l).length≤2:=by
 unfold pairI
 split
 ·unfold pairL;split <;> simp
 ·simp
theorem backs_len {l:List Bk} (h:backsOkB l=true):l.length≤6:=by
 have key:∀j,j < l.length→(j:Int)≤(l.getD j (0,0,false)).1:=fun j=> by
  induction j with
  |zero=>
   intro hj
   obtain ⟨x,y,z,hxy⟩:∃x y z,l.getD 0 (0,0,false)=(x,y,z):=⟨_,_,_,rfl⟩
   have:=backs_all h hj hxy
   rw [hxy];simpa using this.1
  |succ j ih=>
   intro hj
   have h1:=ih (by omega)
   have h2:=backs_lt h (j+1) hj j (by omega)
   omega
 rcases Nat.lt_or_ge 6 l.length with h7|h7
 ·obtain ⟨x,y,z,hxy⟩:∃x y z,l.getD 6 (0,0,false)=(x,y,z):=⟨_,_,_,rfl⟩
  have h1:=key 6 h7
  have h2:=backs_all h h7 hxy
  rw [hxy] at h1
  dsimp only at h1
  omega
 ·exact h7
theorem scL_mem_ok {key b:Int} {l:List Bk} (h:backsOkB l=true) {z:Sc} (hz:z∈scL key b l):okS z:=by
 obtain ⟨i,hi,e⟩:=scL_ids hz
 obtain ⟨x,y,t,hxy⟩:∃x y z,l.getD i (0,0,false)=(x,y,z):=⟨_,_,_,rfl⟩
 have:=backs_all h hi hxy
 rw [hxy] at e
 unfold okS
 rw [←e]
 dsimp only
 omega
theorem backsOkB_take {l:List Bk} (h:backsOkB l=true) (j:Nat):backsOkB (l.take j)=true:=by
 rw [backsOkB_iff] at *
 intro i hi
 have hi':i < l.length:=by simp at hi;omega
 have hij:i < j:=by simp at hi;omega
 have:=h i hi'
 unfold okAt at *
 have e1:(l.take j).getD i (0,0,false)=l.getD i (0,0,false):=by simp [List.getD_eq_getElem?_getD,List.getElem?_take,hij]
 have e2:(l.take j).getD (i - 1) (0,0,false)=l.getD (i - 1) (0,0,false):=by simp [List.getD_eq_getElem?_getD,List.getElem?_take,show i - 1 < j by omega]
 rw [e1,e2];exact this
theorem best_scL {key b:Int} {l:List Bk} (h:backsOkB l=true):Best (scL key b l) (pick (scL key b l)):=by
 have key':∀j,j≤l.length→Best (scL key b (l.take j)) (pick (scL key b (l.take j))):=fun j=> by
  induction j with
  |zero=> intro _;exact ⟨by simp [scL],by simp [scL,pick]⟩
  |succ j ih=>
   intro hj
   have ih':=ih (by omega)
   obtain ⟨x,y,z,hxy⟩:∃x y z,l.getD j (0,0,false)=(x,y,z):=⟨_,_,_,rfl⟩
   have hts:=takeL_succ layK l j (by omega)
   rw [show l.getD j layK.d=l.getD j (0,0,false) from rfl,hxy] at hts
   cases z with
   |true=> rw [hts,scL_snoc_no _ _ _ _ rfl];exact ih'
   |false=>
    rw [hts,scL_snoc_yes _ _ _ _ rfl,pick_snoc]
    have hb:=backs_all h (by omega) hxy
    refine best_step ih' (fun z hz=> scL_mem_ok (backsOkB_take h j) hz) ⟨hb.1,by dsimp only;omega⟩ (fun z hz=> ?_)
    obtain ⟨i,hi,e⟩:=scL_ids hz
    have hij:i < j:=by simp at hi;omega
    have:=backs_lt h j (by omega) i hij
    rw [hxy] at this
    rw [show (l.take j).getD i (0,0,false)=l.getD i (0,0,false) by simp [List.getD_eq_getElem?_getD,List.getElem?_take,hij]] at e
    rw [←e];exact this
 have:=key' l.length (Nat.le_refl _)
 rw [List.take_of_length_le (Nat.le_refl _)] at this
 exact this
theorem implPairOf_any (key b:Int) (o:Option Addr) (cap:Nat) (l:List Bk) (w:World) (hR:RdK w.heap.size w o l) (hlen:l.length≤1048576):
  Calls Tryz.prog 250 #[.int .i64 key,.int .i64 b,.slice o l.length cap] w fun e w'=> ∃v,e=.returned v∧ownI w' w.heap.size v (pairI key b l)∧Below w.heap.size w w':=by
 have hkey:=fun w=> isKey_any key w
 have hbuc:=fun w=> isBucket_any b w
 have hbo:=implBacksOk_any o cap l w hR hlen
 by_cases hk:keyB key=true
 ·rw [hk] at hkey
  by_cases hbk:0≤b∧b < 8
  ·rw [show (decide (0≤b) && decide (b < 8))=true by simp [hbk]] at hbuc
   by_cases hl:backsOkB l=true
   ·rw [hl] at hbo
    have HE:=hide (show pairI key b l=pairL (pick (scL key b l)) by rw [pairI,if_pos ⟨hk,hbk,hl⟩])
    have hln:=backs_len hl
    go_enter Tryz.func250,Tryz.ntmps250
    go_wp2_with (first|(go_at_call 173;refine (hkey _).mono ?_;rintro e w1 ⟨rfl,rfl⟩)|(go_at_call 261;refine (hbuc _).mono ?_;rintro e w1 ⟨rfl,rfl⟩)|(go_at_call 249;refine hbo.mono ?_;rintro e w2 ⟨rfl,hb2⟩))
    refine (contestOf_any key b o cap l w2 ((hR.kept hb2 (Nat.le_refl _)).le hb2.size) (by omega) hk hbk hl).mono ?_
    rintro e w3 ⟨k,v,lb,rfl,hbd,hhp,hok,hhd,hkge,hb3⟩
    have hlb:lb.length≤1000:=by
     have h1:=hhd.1
     have h2:(scL key b l).length≤l.length:=by unfold scL;rw [List.length_map];exact List.length_filter_le _ _
     omega
    have htwo:=twoBest_any k v lb w3 hbd hhp hok hlb
    clear hbo
    go_wp2_with fail
    refine htwo.mono ?_
    rintro e w4 ⟨v4,p,rfl,ht,ho4,hb4⟩
    have hp:=two_pair (best_scL hl) (fun z hz=> scL_mem_ok hl hz) hhd hhp ht
    have HO:=hide (own_mono (hp ▸ ho4) (Nat.le_trans hb2.size hkge))
    have HB:=hide ((hb2.trans (hb3.mono hb2.size)).trans (hb4.mono (Nat.le_trans hb2.size hkge)))
    clear ho4 hb2 hb3 hb4 hR ht hp htwo hbd hhp hok hhd
    go_wp2
    go_ret
    exact ⟨v4,rfl,by rw [HE.out];exact HO.out,HB.out⟩
   ·rw [Bool.eq_false_iff.2 hl] at hbo
    have HE:=hide (show pairI key b l=[] by rw [pairI,if_neg (fun q=> hl q.2.2)])
    go_enter Tryz.func250,Tryz.ntmps250
    go_wp2_with (first|(go_at_call 173;refine (hkey _).mono ?_;rintro e w1 ⟨rfl,rfl⟩)|(go_at_call 261;refine (hbuc _).mono ?_;rintro e w1 ⟨rfl,rfl⟩)|(go_at_call 249;refine hbo.mono ?_;rintro e w2 ⟨rfl,hb2⟩))
    go_ret
    exact ⟨_,rfl,by rw [HE.out];exact World.ownsRow_nil _ _ _ _,hb2⟩
  ·rw [show (decide (0≤b) && decide (b < 8))=false by simpa using hbk] at hbuc
   have HE:=hide (show pairI key b l=[] by rw [pairI,if_neg (fun q=> hbk q.2.1)])
   go_enter Tryz.func250,Tryz.ntmps250
   go_wp2_with (first|(go_at_call 173;refine (hkey _).mono ?_;rintro e w1 ⟨rfl,rfl⟩)|(go_at_call 261;refine (hbuc _).mono ?_;rintro e w1 ⟨rfl,rfl⟩))
   go_ret
   exact ⟨_,rfl,by rw [HE.out];exact World.ownsRow_nil _ _ _ _,Below.refl _ _⟩
 ·rw [Bool.eq_false_iff.2 hk] at hkey
  have HE:=hide (show pairI key b l=[] by rw [pairI,if_neg (fun q=> hk q.1)])
  go_enter Tryz.func250,Tryz.ntmps250
  go_wp2_with (first|(go_at_call 173;refine (hkey _).mono ?_;rintro e w1 ⟨rfl,rfl⟩))
  go_ret
  exact ⟨_,rfl,by rw [HE.out];exact World.ownsRow_nil _ _ _ _,Below.refl _ _⟩
theorem ownL.rds {α:Type} {L:Lay α} {e:TypeId} {w:World} {base n c:Nat} {o:Option Addr} {l:List α} (h:ownL L e w base (.slice o n c) l):RdL L w.heap.size w o l:=by
 obtain ⟨o',c',e',hr⟩:=h.open
 injection e' with e1 e2 e3
 rw [e1];exact hr
theorem own_apart {w:World} {b1 b2 s1 s2 n1 n2:Nat} {e1 e2:TypeId} {v1 v2:Value} {x1 x2:List Value} (h1:w.ownsRow b1 e1 s1 v1 n1 x1) (h2:w.ownsRow b2 e2 s2 v2 n2 x2) (he:e1≠e2):v1.ownBlock=none∨v1.ownBlock≠v2.ownBlock:=by
 rcases h1.2 with ⟨rfl,_⟩|⟨g,cap,cur,rfl,_,hg,_⟩
 ·exact .inl rfl
 ·right
  rcases h2.2 with ⟨rfl,_⟩|⟨g',cap',cur',rfl,_,hg',_⟩
  ·simp [Value.ownBlock]
  ·intro e
   simp [Value.ownBlock] at e
   subst e
   rw [hg] at hg'
   simp at hg'
   exact he hg'.2
theorem intNe:(3:TypeId)≠60:=by decide
def hv (hs:List Hd) (i:Nat):Value:=.slice (hs.getD i (none,0,0)).1 (hs.getD i (none,0,0)).2.1 (hs.getD i (none,0,0)).2.2
structure Tab (R:Nat→List Int) (k:Nat) (w:World) (base:Nat) (hs:List Hd):Prop where
 len:hs.length=k
 row:∀i,i < k→ownI w base (hv hs i) (R i)
 apart:∀i j,i < k→j < k→i≠j→(hv hs i).ownBlock=none∨(hv hs i).ownBlock≠(hv hs j).ownBlock
theorem Tab.nil (R:Nat→List Int) (w:World) (base:Nat):Tab R 0 w base []:=⟨rfl,fun i h=> absurd h (Nat.not_lt_zero _),fun i _ h=> absurd h (Nat.not_lt_zero _)⟩
theorem Tab.kept {R:Nat→List Int} {k:Nat} {w w':World} {base:Nat} {hs:List Hd} (h:Tab R k w base hs) (hb:Below w.heap.size w w'):Tab R k w' base hs:=
 ⟨h.len,fun i hi=> own_kept (h.row i hi) hb,h.apart⟩
theorem Tab.grown {R:Nat→List Int} {k:Nat} {w w':World} {base:Nat} {hs:List Hd} {r:Option Nat} (h:Tab R k w base hs) (hg:w.grownBy w' r) (hn:∀i,i < k→(hv hs i).ownBlock=none∨(hv hs i).ownBlock≠r):Tab R k w' base hs:=
 ⟨h.len,fun i hi=> (h.row i hi).kept hg (hn i hi),h.apart⟩
theorem Tab.other {R:Nat→List Int} {k:Nat} {w w':World} {base b2 s2 n2:Nat} {hs:List Hd} {e2:TypeId} {v2:Value} {x2:List Value} (h:Tab R k w base hs) (h2:w.ownsRow b2 e2 s2 v2 n2 x2) (he:3≠e2) (hg:w.grownBy w' v2.ownBlock):Tab R k w' base hs:=
 h.grown hg fun i hi=> own_apart (h.row i hi) h2 he
theorem hv_left {hs:List Hd} {x:Hd} {i:Nat} (h:i < hs.length):hv (hs++[x]) i=hv hs i:=by
 unfold hv;rw [List.getD_eq_getElem?_getD,List.getElem?_append_left h,←List.getD_eq_getElem?_getD]
theorem hv_last {hs:List Hd} {x:Hd}:hv (hs++[x]) hs.length=.slice x.1 x.2.1 x.2.2:=by
 unfold hv;rw [List.getD_eq_getElem?_getD,List.getElem?_append_right (Nat.le_refl _),Nat.sub_self];rfl
theorem Tab.snoc {R:Nat→List Int} {k:Nat} {w:World} {base n0:Nat} {hs:List Hd} {o:Option Addr} {m c:Nat} (h:Tab R k w base hs) (hlt:∀i,i < k→∀b,(hv hs i).ownBlock=some b→b < n0) (hbn:base≤n0)
  (hr:ownI w n0 (.slice o m c) (R k)):Tab R (k+1) w base (hs++[(o,m,c)]):=by
 have hl:=h.len
 have new:hv (hs++[(o,m,c)]) k=.slice o m c:=by rw [←hl];exact hv_last
 refine ⟨by simp [hl],fun i hi=> ?_,fun i j hi hj hij=> ?_⟩
 ·rcases Nat.lt_succ_iff_lt_or_eq.1 hi with h'|h'
  ·rw [hv_left (by omega)];exact h.row i h'
  ·subst h';rw [new];exact own_mono hr hbn
 ·rcases Nat.lt_succ_iff_lt_or_eq.1 hi with h'|h'
  ·rw [hv_left (by omega)]
   rcases Nat.lt_succ_iff_lt_or_eq.1 hj with g'|g'
   ·rw [hv_left (by omega)];exact h.apart i j h' g' hij
   ·subst g';rw [new]
    cases hob:(hv hs i).ownBlock with
    |none=> exact .inl rfl
    |some b=>
     right
     intro e
     have h1:=hlt i h' b hob
     have h2:=(hr.lt b e.symm).1
     omega
  ·subst h'
   rw [new]
   cases hob:(Value.slice o m c).ownBlock with
   |none=> exact .inl rfl
   |some b=>
    right
    rw [hv_left (by omega)]
    intro e
    have h1:=hlt j (by omega) b e.symm
    have h2:=(hr.lt b hob).1
    omega
theorem Tab.lt {R:Nat→List Int} {k:Nat} {w:World} {base:Nat} {hs:List Hd} (h:Tab R k w base hs):∀i,i < k→∀b,(hv hs i).ownBlock=some b→b < w.heap.size:=
 fun i hi b e=> ((h.row i hi).lt b e).2
def rowsOf (R:Nat→List Int) (n:Nat):List (List Int):=(List.range n).map R
theorem rowsOf_length (R:Nat→List Int) (n:Nat):(rowsOf R n).length=n:=by simp [rowsOf]
theorem rowsOf_get (R:Nat→List Int) (n i:Nat) (h:i < n):(rowsOf R n).getD i []=R i:=by simp [rowsOf,h]
theorem Tab.rd {R:Nat→List Int} {n:Nat} {w:World} {base b2 m c:Nat} {hs:List Hd} {o:Option Addr} (h:Tab R n w base hs) (ho:ownL layH 60 w b2 (.slice o m c) hs):RdLL w.heap.size w o (rowsOf R n):=by
 refine ⟨hs,by rw [h.len,rowsOf_length],ownL.rds ho,fun i hi=> ?_⟩
 rw [rowsOf_length] at hi
 rw [rowsOf_get R n i hi]
 have hr:=h.row i hi
 obtain ⟨o',c',e',_⟩:=ownL.open (L:=layI) hr
 unfold hv at e'
 injection e' with e1 e2 e3
 exact ⟨e2,ownL.rds (L:=layI) hr⟩
def OwnT (w:World) (base:Nat) (v:Value) (n:Nat) (R:Nat→List Int):Prop:=
 (v=.slice none 0 0∧n=0)∨∃g hs,v=.slice (some ⟨g,0,none⟩) n n∧ownL layH 60 w base v hs∧Tab R n w base hs
theorem OwnT.open {w:World} {base n:Nat} {v:Value} {R:Nat→List Int} (h:OwnT w base v n R):∃o c,v=.slice o n c∧RdLL w.heap.size w o (rowsOf R n):=by
 rcases h with ⟨rfl,rfl⟩|⟨g,hs,rfl,ho,ht⟩
 ·exact ⟨none,0,rfl,[],rfl,.inl rfl,fun i hi=> by simp [rowsOf] at hi⟩
 ·exact ⟨_,_,rfl,ht.rd ho⟩
def st (R:Nat→List Int) (k:Int):Nat→Int
 |0=> k
 |i+1=> st R k i+(R i).length
theorem Stp.cellP {lo hi:Nat} {w w':World} {p:Addr} {u:Value} (s:Stp lo hi w w') (h:w.cell? p=some u) (hk:p.block < lo∨hi≤p.block):w'.cell? p=some u:=by
 have hlt:p.block < w.heap.size:=by
  rcases Nat.lt_or_ge p.block w.heap.size with h'|h'
  ·exact h'
  ·simp [World.cell?,Array.getElem?_eq_none h'] at h
 have e:=s.block p.block hlt hk
 simp only [World.cell?,e] at h ⊢
 exact h
def RiV {α:Type} (L:Lay α) (lo hi:Nat) (w:World) (v:Value) (l:List α):Prop:=∃o c,v=.slice o l.length c∧RdLo L lo hi w o l
theorem RiV.step {α:Type} {L:Lay α} {a b lo hi:Nat} {w w':World} {v:Value} {l:List α} (h:RiV L a b w v l) (s:Stp lo hi w w') (hd:hi≤a∨b≤lo):RiV L a b w' v l:=by
 obtain ⟨o,c,e,r⟩:=h
 refine ⟨o,c,e, ?_⟩
 rcases r with r|⟨g,off,ho,h0,h1,r⟩
 ·exact .inl r
 ·refine .inr ⟨g,off,ho,h0,h1,fun i hi' j hj=> ?_⟩
  have h:=r i hi' j hj
  have hl:(L.cs (l.getD i L.d)).length=L.k:=L.len _
  rw [List.getElem?_eq_getElem (by omega)] at h ⊢
  exact s.cellP h (by simp only;omega)
theorem RiV.mono {α:Type} {L:Lay α} {a b a' b':Nat} {w:World} {v:Value} {l:List α} (h:RiV L a b w v l) (h1:a'≤a) (h2:b≤b'):RiV L a' b' w v l:=by
 obtain ⟨o,c,e,r⟩:=h
 refine ⟨o,c,e, ?_⟩
 rcases r with r|⟨g,off,ho,h3,h4,r⟩
 ·exact .inl r
 ·exact .inr ⟨g,off,ho,by omega,by omega,r⟩
theorem RiV.open {α:Type} {L:Lay α} {a b:Nat} {w:World} {v:Value} {l:List α} (h:RiV L a b w v l):∃o c,v=.slice o l.length c∧RdL L b w o l:=by
 obtain ⟨o,c,e,r⟩:=h
 exact ⟨o,c,e,r.rd⟩
theorem RiV.of {α:Type} {L:Lay α} {C:Nat} {w:World} {o:Option Addr} {c:Nat} {l:List α} (h:RdL L C w o l):RiV L 0 C w (.slice o l.length c) l:=by
 refine ⟨o,c,rfl, ?_⟩
 rcases h with h|⟨g,off,ho,h1,r⟩
 ·exact .inl h
 ·exact .inr ⟨g,off,ho,Nat.zero_le _,h1,r⟩
theorem InRow.ri {α:Type} {L:Lay α} {e:TypeId} {lo hi:Nat} {w:World} {v:Value} {l:List α} (h:InL L e lo hi w v l):RiV L lo hi w v l:=by
 obtain ⟨o,c,e1,r⟩:=InL.rd (L:=L) h
 refine ⟨o,c,e1, ?_⟩
 rcases r with r|⟨g,off,ho,h1,r⟩
 ·exact .inl r
 ·refine .inr ⟨g,off,ho,(h.1.lt g (by rw [e1,ho];rfl)).1,h1,r⟩
def RiRows {α:Type} (Q:Nat→Nat→World→Value→α→Prop) (d:α) (lo hi:Nat) (w:World) (v:Value) (xs:List α):Prop:=∃hs:List Hd,hs.length=xs.length∧RiV layH lo hi w v hs∧∀i,i < xs.length→Q lo hi w (hv hs i) (xs.getD i d)
structure Stps {α:Type} (Q:Nat→Nat→World→Value→α→Prop):Prop where
 go:∀{a b lo hi:Nat} {w w':World} {v:Value} {x:α},Q a b w v x→Stp lo hi w w'→(hi≤a∨b≤lo)→Q a b w' v x
structure Monos {α:Type} (Q:Nat→Nat→World→Value→α→Prop):Prop where
 go:∀{a b a' b':Nat} {w:World} {v:Value} {x:α},Q a b w v x→a'≤a→b≤b'→Q a' b' w v x
theorem RiRows.step {α:Type} {Q:Nat→Nat→World→Value→α→Prop} {d:α} (hQ:Stps Q):Stps (RiRows Q d):=⟨fun ⟨hs,h0,h1,h2⟩ s hd=> ⟨hs,h0,h1.step s hd,fun i hi=> hQ.go (h2 i hi) s hd⟩⟩
theorem RiRows.mono {α:Type} {Q:Nat→Nat→World→Value→α→Prop} {d:α} (hQ:Monos Q):Monos (RiRows Q d):=⟨fun ⟨hs,h0,h1,h2⟩ k1 k2=> ⟨hs,h0,h1.mono k1 k2,fun i hi=> hQ.go (h2 i hi) k1 k2⟩⟩
abbrev RiI:=RiV layI
abbrev RiT:=RiRows RiI []
abbrev RiR:=RiRows RiT []
theorem RiI.stp:Stps RiI:=⟨fun h s hd=> RiV.step h s hd⟩
theorem RiI.mon:Monos RiI:=⟨fun h h1 h2=> RiV.mono h h1 h2⟩
theorem RiT.stp:Stps RiT:=RiRows.step RiI.stp
theorem RiT.mon:Monos RiT:=RiRows.mono RiI.mon
theorem RiR.stp:Stps RiR:=RiRows.step RiT.stp
theorem RiR.mon:Monos RiR:=RiRows.mono RiT.mon
theorem RiT.rd {a b:Nat} {w:World} {v:Value} {ll:List (List Int)} (h:RiT a b w v ll):∃o c,v=.slice o ll.length c∧RdLL b w o ll:=by
 obtain ⟨hs,h0,h1,h2⟩:=h
 obtain ⟨o,c,e,r⟩:=h1.open
 refine ⟨o,c,by rw [e,h0],hs,h0,r,fun i hi=> ?_⟩
 obtain ⟨o',c',e',r'⟩:=(h2 i hi).open
 unfold hv at e'
 injection e' with e1 e2 e3
 exact ⟨e2,by rw [e1];exact r'⟩
theorem RiT.of {C:Nat} {w:World} {o:Option Addr} {c:Nat} {ll:List (List Int)} (h:RdLL C w o ll):RiT 0 C w (.slice o ll.length c) ll:=by
 obtain ⟨hs,h0,r,h2⟩:=h
 refine ⟨hs,h0,by rw [←h0];exact RiV.of r,fun i hi=> ?_⟩
 have h3:=RiV.of (c:=(hs.getD i (none,0,0)).2.2) (h2 i hi).2
 unfold hv
 rw [(h2 i hi).1]
 exact h3
theorem RiR.at {a C:Nat} {w:World} {o:Option Addr} {n c:Nat} {lll:List (List (List Int))} (h:RiR a C w (.slice o n c) lll) (hC:C≤w.heap.size) (i:Nat) (hi:i < lll.length):
  ∃b off o' c',o=some ⟨b,off,none⟩∧b < w.heap.size∧w.cell? ⟨b,off+i,none⟩=some (.slice o' (lll.getD i []).length c')∧RdLL w.heap.size w o' (lll.getD i []):=by
 obtain ⟨hs,h0,h1,h2⟩:=h
 obtain ⟨o1,c1,e,r⟩:=h1.open
 injection e with e1 e2 e3
 subst e1
 rcases r with r|⟨b,off,ho,hb,r⟩
 ·subst r;simp at h0;omega
 ·have hc:=RdL.head r i (by omega)
  obtain ⟨o',c',e',r'⟩:=RiT.rd (h2 i hi)
  unfold hv at e'
  rw [e'] at hc
  exact ⟨b,off,o',c',ho,Nat.lt_of_lt_of_le hb hC,hc,r'.le hC⟩
structure Rw {α:Type} (Q:Nat→Nat→World→Value→α→Prop) (d:α) (xs:List α) (lo hi:Nat) (w:World) (hs:List Hd) (L H:Nat→Nat):Prop where
 len:hs.length=xs.length
 bd:∀i,i < xs.length→lo≤L i∧H i≤hi
 sep:∀i j,i < j→j < xs.length→H i≤L j
 row:∀i,i < xs.length→Q (L i) (H i) w (hv hs i) (xs.getD i d)
theorem Rw.nil {α:Type} (Q:Nat→Nat→World→Value→α→Prop) (d:α) (lo hi:Nat) (w:World) (L H:Nat→Nat):Rw Q d [] lo hi w [] L H:=⟨rfl,fun i h=> absurd h (Nat.not_lt_zero _),fun i j _ h=> absurd h (Nat.not_lt_zero _),fun i h=> absurd h (Nat.not_lt_zero _)⟩
theorem Rw.step {α:Type} {Q:Nat→Nat→World→Value→α→Prop} {d:α} {xs:List α} {a b lo hi:Nat} {w w':World} {hs:List Hd} {L H:Nat→Nat} (hQ:Stps Q) (h:Rw Q d xs a b w hs L H) (s:Stp lo hi w w') (hd:∀i,i < xs.length→hi≤L i∨H i≤lo):Rw Q d xs a b w' hs L H:=
 ⟨h.len,h.bd,h.sep,fun i hi'=> hQ.go (h.row i hi') s (hd i hi')⟩
theorem Rw.kept {α:Type} {Q:Nat→Nat→World→Value→α→Prop} {d:α} {xs:List α} {a b:Nat} {w w':World} {hs:List Hd} {L H:Nat→Nat} (hQ:Stps Q) (h:Rw Q d xs a b w hs L H) (hb:Below w.heap.size w w'):Rw Q d xs a b w' hs L H:=
 h.step hQ (Stp.of (lo:=0) (hi:=0) hb) (fun i _=> .inl (Nat.zero_le _))
theorem Rw.mono {α:Type} {Q:Nat→Nat→World→Value→α→Prop} {d:α} {xs:List α} {a b a' b':Nat} {w:World} {hs:List Hd} {L H:Nat→Nat} (h:Rw Q d xs a b w hs L H) (h1:a'≤a) (h2:b≤b'):Rw Q d xs a' b' w hs L H:=
 ⟨h.len,fun i hi=> ⟨Nat.le_trans h1 (h.bd i hi).1,Nat.le_trans (h.bd i hi).2 h2⟩,h.sep,h.row⟩
theorem Rw.snoc {α:Type} {Q:Nat→Nat→World→Value→α→Prop} {d:α} {xs:List α} {lo b l2 h2:Nat} {w:World} {hs:List Hd} {L H:Nat→Nat} {o:Option Addr} {m c:Nat} {x:α} (h:Rw Q d xs lo b w hs L H) (hb:b≤l2) (hlo:lo≤l2) (hl:l2≤h2) (q:Q l2 h2 w (.slice o m c) x):
  Rw Q d (xs++[x]) lo h2 w (hs++[(o,m,c)]) (fun i=> if i < xs.length then L i else l2) (fun i=> if i < xs.length then H i else h2):=by
 have hl':=h.len
 refine ⟨by simp [hl'],fun i hi=> ?_,fun i j hij hj=> ?_,fun i hi=> ?_⟩
 ·by_cases hi':i < xs.length
  ·have:=h.bd i hi';simp only [hi',if_true];omega
  ·simp only [hi',if_false];omega
 ·simp at hj
  have hi':i < xs.length:=by omega
  by_cases hj':j < xs.length
  ·simp only [hi',hj',if_true];exact h.sep i j hij hj'
  ·have:=h.bd i hi';simp only [hi',hj',if_true,if_false];omega
 ·by_cases hi':i < xs.length
  ·have e1:(xs++[x]).getD i d=xs.getD i d:=by rw [List.getD_eq_getElem?_getD,List.getElem?_append_left hi',←List.getD_eq_getElem?_getD]
   simp only [hi',if_true]
   rw [hv_left (by omega),e1];exact h.row i hi'
  ·have e0:i=xs.length:=by simp at hi;omega
   subst e0
   have e1:(xs++[x]).getD xs.length d=x:=by simp
   simp only [Nat.lt_irrefl,if_false]
   rw [e1,←hl',hv_last];exact q
def outB (v:Value) (n:Nat) (L H:Nat→Nat):Prop:=∀i,i < n→∀b,v.ownBlock=some b→b < L i∨H i≤b
def InRows {α:Type} (Q:Nat→Nat→World→Value→α→Prop) (d:α) (T:TypeId) (lo hi:Nat) (w:World) (v:Value) (xs:List α):Prop:=∃hs L H,InL layH T lo hi w v hs∧Rw Q d xs lo hi w hs L H∧outB v xs.length L H
theorem InRows.step {α:Type} {Q:Nat→Nat→World→Value→α→Prop} {d:α} {T:TypeId} (hQ:Stps Q):Stps (InRows Q d T):=⟨fun ⟨hs,L,H,h0,h1,h2⟩ s hd=>
 ⟨hs,L,H,InRow.step h0 s hd,h1.step hQ s (fun i hi=> by have:=h1.bd i hi;omega),h2⟩⟩
theorem InRows.mono {α:Type} {Q:Nat→Nat→World→Value→α→Prop} {d:α} {T:TypeId}:Monos (InRows Q d T):=⟨fun ⟨hs,L,H,h0,h1,h2⟩ k1 k2=>
 ⟨hs,L,H,InRow.mono h0 k1 k2,h1.mono k1 k2,h2⟩⟩
theorem InRows.ri {α:Type} {Q Q':Nat→Nat→World→Value→α→Prop} {d:α} {T:TypeId} (hm:Monos Q') (hq:∀{lo hi:Nat} {w:World} {v:Value} {x:α},Q lo hi w v x→Q' lo hi w v x) {lo hi:Nat} {w:World} {v:Value} {xs:List α} (h:InRows Q d T lo hi w v xs):RiRows Q' d lo hi w v xs:=by
 obtain ⟨hs,L,H,h0,h1,h2⟩:=h
 exact ⟨hs,h1.len,InRow.ri h0,fun i hi=> hm.go (hq (h1.row i hi)) (h1.bd i hi).1 (h1.bd i hi).2⟩
abbrev InI:=InL layI 3
abbrev InT:=InRows InI [] 60
abbrev InR:=InRows InT [] 228
theorem InI.stp:Stps InI:=⟨fun h s hd=> InRow.step h s hd⟩
theorem InT.stp:Stps InT:=InRows.step InI.stp
theorem InR.stp:Stps InR:=InRows.step InT.stp
theorem InT.ri {lo hi:Nat} {w:World} {v:Value} {ll:List (List Int)} (h:InT lo hi w v ll):RiT lo hi w v ll:=InRows.ri RiI.mon (fun q=> InRow.ri q) h
theorem InR.ri {lo hi:Nat} {w:World} {v:Value} {ll:List (List (List Int))} (h:InR lo hi w v ll):RiR lo hi w v ll:=InRows.ri RiT.mon (fun q=> InT.ri q) h
end Go.Proofs.YtgplppfbinfelaaGreat
namespace Go.Proofs.YtgplppfbinfelaaGreat
open Go.ChangeShapes Go.WideShapes Go.ChangeAt Go.RowKit Go.Joins
set_option linter.unusedVariables false
set_option linter.unusedSimpArgs false
set_option maxRecDepth 100000
set_option maxHeartbeats 40000000
structure El (η α:Type) where
 L:Lay η
 val:η→Value
 R:Nat→Nat→World→Value→α→Prop
 Q:Nat→Nat→World→Value→α→Prop
 d:α
 pos:0 < L.k
 rs:Stps R
 rm:Monos R
 qs:Stps Q
 qr:∀{lo hi:Nat} {w:World} {v:Value} {x:α},Q lo hi w v x→R lo hi w v x
variable {η α:Type}
def RiE (E:El η α) (lo hi:Nat) (w:World) (v:Value) (xs:List α):Prop:=∃hs:List η,hs.length=xs.length∧RiV E.L lo hi w v hs∧∀i,i < xs.length→E.R lo hi w (E.val (hs.getD i E.L.d)) (xs.getD i E.d)
theorem RiE.stp (E:El η α):Stps (RiE E):=⟨fun ⟨hs,h0,h1,h2⟩ s hd=> ⟨hs,h0,h1.step s hd,fun i hi=> E.rs.go (h2 i hi) s hd⟩⟩
theorem RiE.mon (E:El η α):Monos (RiE E):=⟨fun ⟨hs,h0,h1,h2⟩ k1 k2=> ⟨hs,h0,h1.mono k1 k2,fun i hi=> E.rm.go (h2 i hi) k1 k2⟩⟩
theorem RiE.len {E:El η α} {lo hi:Nat} {w:World} {v:Value} {xs:List α} (h:RiE E lo hi w v xs):∃o c,v=.slice o xs.length c:=by
 obtain ⟨hs,h0,⟨o,c,e,_⟩,_⟩:=h
 exact ⟨o,c,by rw [e,h0]⟩
theorem RiE.on {E:El η α} {w w':World} {v:Value} {xs:List α} (h:RiE E 0 w.heap.size w v xs) (hb:Below w.heap.size w w'):RiE E 0 w'.heap.size w' v xs:=
 (RiE.mon E).go ((RiE.stp E).go h (Stp.of (lo:=0) (hi:=0) hb) (.inl (Nat.zero_le _))) (Nat.le_refl _) hb.size
theorem RiE.at {E:El η α} {a C:Nat} {w:World} {o:Option Addr} {n c:Nat} {xs:List α} (h:RiE E a C w (.slice o n c) xs) (i:Nat) (hi:i < xs.length):
  ∃b off y,o=some ⟨b,off,none⟩∧b < C∧(∀j,j < E.L.k→w.cell? ⟨b,off+i * E.L.k+j,none⟩=(E.L.cs y)[j]?)∧E.R a C w (E.val y) (xs.getD i E.d):=by
 obtain ⟨hs,h0,h1,h2⟩:=h
 obtain ⟨o1,c1,e,r⟩:=h1.open
 injection e with e1 e2 e3
 subst e1
 rcases r with r|⟨b,off,ho,hb,r⟩
 ·subst r;simp at h0;omega
 ·exact ⟨b,off,hs.getD i E.L.d,ho,hb,r i (by omega),h2 i hi⟩
structure RwE (E:El η α) (xs:List α) (lo hi:Nat) (w:World) (hs:List η) (L H:Nat→Nat):Prop where
 len:hs.length=xs.length
 bd:∀i,i < xs.length→lo≤L i∧H i≤hi
 sep:∀i j,i < xs.length→j < xs.length→i≠j→H i≤L j∨H j≤L i
 row:∀i,i < xs.length→E.Q (L i) (H i) w (E.val (hs.getD i E.L.d)) (xs.getD i E.d)
theorem RwE.nil (E:El η α) (lo hi:Nat) (w:World) (L H:Nat→Nat):RwE E [] lo hi w [] L H:=⟨rfl,fun i h=> absurd h (Nat.not_lt_zero _),fun i j h=> absurd h (Nat.not_lt_zero _),fun i h=> absurd h (Nat.not_lt_zero _)⟩
theorem RwE.step {E:El η α} {xs:List α} {a b lo hi:Nat} {w w':World} {hs:List η} {L H:Nat→Nat} (h:RwE E xs a b w hs L H) (s:Stp lo hi w w') (hd:∀i,i < xs.length→hi≤L i∨H i≤lo):RwE E xs a b w' hs L H:=
 ⟨h.len,h.bd,h.sep,fun i hi'=> E.qs.go (h.row i hi') s (hd i hi')⟩
theorem RwE.kept {E:El η α} {xs:List α} {a b:Nat} {w w':World} {hs:List η} {L H:Nat→Nat} (h:RwE E xs a b w hs L H) (hb:Below w.heap.size w w'):RwE E xs a b w' hs L H:=
 h.step (Stp.of (lo:=0) (hi:=0) hb) (fun i _=> .inl (Nat.zero_le _))
theorem RwE.mono {E:El η α} {xs:List α} {a b a' b':Nat} {w:World} {hs:List η} {L H:Nat→Nat} (h:RwE E xs a b w hs L H) (h1:a'≤a) (h2:b≤b'):RwE E xs a' b' w hs L H:=
 ⟨h.len,fun i hi=> ⟨Nat.le_trans h1 (h.bd i hi).1,Nat.le_trans (h.bd i hi).2 h2⟩,h.sep,h.row⟩
theorem getE_left {β:Type} {l:List β} {y d:β} {i:Nat} (h:i < l.length):(l++[y]).getD i d=l.getD i d:=by rw [List.getD_eq_getElem?_getD,List.getElem?_append_left h,←List.getD_eq_getElem?_getD]
theorem getE_last {β:Type} {l:List β} {y d:β}:(l++[y]).getD l.length d=y:=by simp
theorem RwE.snoc {E:El η α} {xs:List α} {lo b l2 h2:Nat} {w:World} {hs:List η} {L H:Nat→Nat} {y:η} {x:α} (h:RwE E xs lo b w hs L H) (hb:b≤l2) (hlo:lo≤l2) (hl:l2≤h2) (q:E.Q l2 h2 w (E.val y) x):
  RwE E (xs++[x]) lo h2 w (hs++[y]) (fun i=> if i < xs.length then L i else l2) (fun i=> if i < xs.length then H i else h2):=by
 have hl':=h.len
 refine ⟨by simp [hl'],fun i hi=> ?_,fun i j hi hj hij=> ?_,fun i hi=> ?_⟩
 ·by_cases hi':i < xs.length
  ·have:=h.bd i hi';simp only [hi',if_true];omega
  ·simp only [hi',if_false];omega
 ·simp at hi hj
  by_cases hi':i < xs.length <;> by_cases hj':j < xs.length
  ·simp only [hi',hj',if_true];exact h.sep i j hi' hj' hij
  ·have:=h.bd i hi';simp only [hi',hj',if_true,if_false];omega
  ·have:=h.bd j hj';simp only [hi',hj',if_true,if_false];omega
  ·omega
 ·by_cases hi':i < xs.length
  ·simp only [hi',if_true]
   rw [getE_left (by omega),getE_left hi'];exact h.row i hi'
  ·have e0:i=xs.length:=by simp at hi;omega
   subst e0
   simp only [Nat.lt_irrefl,if_false]
   rw [getE_last,←hl',getE_last];exact q
def InE (E:El η α) (T:TypeId) (lo hi:Nat) (w:World) (v:Value) (xs:List α):Prop:=∃hs L H,InL E.L T lo hi w v hs∧RwE E xs lo hi w hs L H∧outB v xs.length L H
theorem InE.stp (E:El η α) (T:TypeId):Stps (InE E T):=⟨fun ⟨hs,L,H,h0,h1,h2⟩ s hd=>
 ⟨hs,L,H,InRow.step h0 s hd,h1.step s (fun i hi=> by have:=h1.bd i hi;omega),h2⟩⟩
theorem InE.ri {E:El η α} {T:TypeId} {lo hi:Nat} {w:World} {v:Value} {xs:List α} (h:InE E T lo hi w v xs):RiE E lo hi w v xs:=by
 obtain ⟨hs,L,H,h0,h1,h2⟩:=h
 exact ⟨hs,h1.len,InRow.ri h0,fun i hi=> E.rm.go (E.qr (h1.row i hi)) (h1.bd i hi).1 (h1.bd i hi).2⟩
def fillE (L:Lay η) (hs:List η) (n k:Nat):List η:=hs++List.replicate (n - k) L.d
theorem fillE_len {L:Lay η} {hs:List η} {n k:Nat} (hk:k≤n) (hl:hs.length=k):(fillE L hs n k).length=n:=by simp [fillE,hl];omega
theorem fillE_set {L:Lay η} {hs:List η} {n k:Nat} (hk:k < n) (hl:hs.length=k) (y:η):(fillE L hs n k).set k y=fillE L (hs++[y]) n (k+1):=by
 have e1:n - k=(n - (k+1))+1:=by omega
 unfold fillE
 rw [e1,List.replicate_succ,List.set_append_right _ _ (by omega),hl,Nat.sub_self,List.set_cons_zero,List.append_assoc]
 rfl
theorem fillE_zero (L:Lay η) (n:Nat):fillE L [] n 0=List.replicate n L.d:=by simp [fillE]
theorem fillE_all (L:Lay η) (hs:List η) (n:Nat):fillE L hs n n=hs:=by simp [fillE]
theorem InE.filled {E:El η α} {T:TypeId} {base hi:Nat} {w:World} {hs:List η} {L H:Nat→Nat} {xs:List α} (h:w.ownsRow base T E.L.k (.slice (some ⟨base,0,none⟩) xs.length xs.length) xs.length ((fillE E.L hs xs.length xs.length).flatMap E.L.cs))
  (hr:RwE E xs (base+1) hi w hs L H) (hb:base < hi):InE E T base hi w (.slice (some ⟨base,0,none⟩) xs.length xs.length) xs:=by
 rw [fillE_all] at h
 have hl:=hr.len
 have h3:∀b,(Value.slice (some ⟨base,0,none⟩) xs.length xs.length).ownBlock=some b→b=base:=fun b e=> (Option.some.inj e).symm
 refine ⟨hs,L,H,⟨by rw [hl];exact h,fun b e=> by have:=h3 b e;omega⟩,hr.mono (by omega) (Nat.le_refl _),fun i hi b e=> ?_⟩
 have:=h3 b e
 have:=hr.bd i hi
 omega
theorem takeE_snoc {xs:List α} {k:Nat} (d:α) (h:k < xs.length):xs.take (k+1)=xs.take k++[xs.getD k d]:=by
 rw [List.take_succ_eq_append_getElem h];simp [h]
end Go.Proofs.YtgplppfbinfelaaGreat
namespace Go.Proofs.YtgplppfbinfelaaGreat
open Go.ChangeShapes Go.WideShapes Go.ChangeAt Go.RowKit Go.Joins
set_option linter.unusedVariables false
set_option linter.unusedSimpArgs false
set_option maxRecDepth 100000
set_option maxHeartbeats 40000000
def sumN (S : Nat → Nat) : Nat → Nat
  | 0 => 0
  | n + 1 => sumN S n + S n
theorem sumN_le (S : Nat → Nat) {i n : Nat} (h : i ≤ n) : sumN S i ≤ sumN S n := by
  induction n with
  | zero => have : i = 0 := by omega
            subst this; exact Nat.le_refl _
  | succ n ih =>
    by_cases h' : i ≤ n
    · have := ih h'; show sumN S i ≤ sumN S n + S n; omega
    · have : i = n + 1 := by omega
      subst this; exact Nat.le_refl _
theorem sumN_at (S : Nat → Nat) {i n : Nat} (h : i < n) : sumN S i + S i ≤ sumN S n := sumN_le S (show i + 1 ≤ n from h)
theorem sumN_bd (S : Nat → Nat) (m : Nat) (h : ∀ i, S i ≤ m) : ∀ n, sumN S n ≤ m * n
  | 0 => Nat.zero_le _
  | n + 1 => by have := sumN_bd S m h n; have := h n; unfold sumN; rw [Nat.mul_succ]; omega
def lenT (ll : List (List Int)) (i : Nat) : Nat := (ll.getD i []).length
def szT (ll : List (List Int)) : Nat := sumN (lenT ll) ll.length
def lenR (lll : List (List (List Int))) (i : Nat) : Nat := szT (lll.getD i [])
def szR (lll : List (List (List Int))) : Nat := sumN (lenR lll) lll.length
theorem eqIntSSS_same (v1 v2:Value) (ll:List (List (List Int))) (w:World) (h1:RiR 0 w.heap.size w v1 ll) (h2:RiR 0 w.heap.size w v2 ll) (hl:ll.length≤1048576) (hx:∀i,i < ll.length→(ll.getD i []).length≤1048576) (hy:∀i,i < ll.length→∀j,j < (ll.getD i []).length→((ll.getD i []).getD j []).length≤1048576):
  Calls Tryz.prog 166 #[v1,v2] w fun e w'=> e=.returned (.bool true)∧Below w.heap.size w w':=by
 obtain ⟨o1,c1,e1⟩:∃o c,v1=.slice o ll.length c:=by
  obtain ⟨hs,h0,⟨o,c,e,_⟩,_⟩:=h1
  exact ⟨o,c,by rw [e,h0]⟩
 obtain ⟨o2,c2,e2⟩:∃o c,v2=.slice o ll.length c:=by
  obtain ⟨hs,h0,⟨o,c,e,_⟩,_⟩:=h2
  exact ⟨o,c,by rw [e,h0]⟩
 subst e1 e2
 go_enter Tryz.func166,Tryz.ntmps166
 go_wp2
 go_loopw [5] (fun i wr=> ∃k:Nat,k≤ll.length∧i=.int .i64 (k:Int)∧Below w.heap.size w wr)
  (fun i _=> ll.length - (intOf i).toNat)
 case atStart=> exact ⟨0,Nat.zero_le _,rfl,Below.refl _ _⟩
 case round=>
  obtain ⟨k,hk,rfl,hBr⟩:=hrel
  by_cases hlt:k < ll.length
  ·obtain ⟨b1,off1,o1',c1',rfl,hb1,hc1,hr1⟩:=(RiR.mon.go (RiR.stp.go h1 (Stp.of (lo:=0) (hi:=0) hBr) (.inl (Nat.zero_le _))) (Nat.le_refl _) hBr.size).at (Nat.le_refl _) k hlt
   obtain ⟨b2,off2,o2',c2',rfl,hb2,hc2,hr2⟩:=(RiR.mon.go (RiR.stp.go h2 (Stp.of (lo:=0) (hi:=0) hBr) (.inl (Nat.zero_le _))) (Nat.le_refl _) hBr.size).at (Nat.le_refl _) k hlt
   have hxk:=hx k hlt
   have HYK:=hide (hy k hlt)
   have HB:=hide hBr
   have G1:=Grown.cell hc1 hb1
   have G2:=Grown.cell hc2 hb2
   have HE:=hide (fun p:Grown wr=> eqIntSS_same o1' o2' c1' c2' (ll.getD k []) p.v ((hr1.kept p.b (Nat.le_refl _)).le p.b.size) ((hr2.kept p.b (Nat.le_refl _)).le p.b.size) hxk HYK.out)
   clear hBr hr1 hr2 hx hy h1 h2 hc1 hc2 HYK
   have i1:(k:Int) < (ll.length:Int):=by omega
   generalize ll.getD k []=row at *
   go_wp2
   (refine wp_region_grown (by kernel_rfl) (by kernel_rfl) ?_;intro hne9;(repeat (go_big_quiet_step ((go_at_call 208;exact grown_of _ (HE.out _)))));(with_reducible refine wpQuiet_nil ?_);intro _ hw9;obtain ⟨pq,hw8⟩:=hw9;subst hw8)
   go_wp2
   go_roundw
   case rel=> exact ⟨k+1,by omega,by go_num,HB.out.trans (pq.b.mono HB.out.size)⟩
   case measure=> simp [intOf];omega
  ·have e:k=ll.length:=by omega
   subst e
   go_wp2
   go_ret
   exact ⟨rfl,hBr⟩
def tabN (key:Int) (l:List Bk):Nat:=if keyB key=true∧backsOkB l=true then 8 else 0
theorem fillT_step {wr:World} {base g:Nat} {hs:List Hd} {k n:Nat} {o:Option Addr} {m c:Nat} (hk:k < n) (hl:hs.length=k) (h:wr.ownsRow base 60 1 (.slice (some ⟨g,0,none⟩) n n) n ((hs++List.replicate (n - k) layH.d).flatMap layH.cs)):
  (wr.setCell ⟨g,k,none⟩ (.slice o m c)).ownsRow base 60 1 (.slice (some ⟨g,0,none⟩) n n) n (((hs++[(o,m,c)])++List.replicate (n - (k+1)) layH.d).flatMap layH.cs):=by
 have h1:=(h.stored k (.slice o m c)).1
 rw [flat_set1 layH rfl (a:=(o,m,c)) rfl] at h1
 have e1:n - k=(n - (k+1))+1:=by omega
 rw [e1,List.replicate_succ,List.set_append_right _ _ (by omega),hl,Nat.sub_self,List.set_cons_zero] at h1
 rw [List.append_assoc]
 exact h1
theorem implTableOf_any (key:Int) (o:Option Addr) (cap:Nat) (l:List Bk) (w:World) (hR:RdK w.heap.size w o l) (hlen:l.length≤1048576):
  Calls Tryz.prog 235 #[.int .i64 key,.slice o l.length cap] w fun e w'=> ∃v,e=.returned v∧OwnT w' w.heap.size v (tabN key l) (fun b=> pairI key b l)∧Below w.heap.size w w':=by
 have hkey:=fun w=> isKey_any key w
 have hbo:=implBacksOk_any o cap l w hR hlen
 by_cases hk:keyB key=true
 ·rw [hk] at hkey
  by_cases hl:backsOkB l=true
  ·rw [hl] at hbo
   have HE:=hide (show tabN key l=8 by rw [tabN,if_pos ⟨hk,hl⟩])
   have HP:=hide (fun (b:Nat) W h=> implPairOf_any key b o cap l W h hlen)
   obtain ⟨i0,hi,hz0,hz1,hz2⟩:=info_parts infoIntS
   go_enter Tryz.func235,Tryz.ntmps235
   go_wp2_with (first|(go_at_call 173;refine (hkey _).mono ?_;rintro e w1 ⟨rfl,rfl⟩)|(go_at_call 249;refine hbo.mono ?_;rintro e w2 ⟨rfl,hb2⟩)|(at_make;refine wpList_make_full _ rfl _ _ 228 rfl w2.heap.size 60 i0 (.slice none 0 0) 1 Tryz.underlying228 hi hz0 hz1 _ _ _ _ 8 rfl rfl rfl rfl ?b2 ?b3 ?b4 ?_))
   case b2=> rw [hz2];omega
   case b3=> unfold maxLen;omega
   case b4=> simp
   intro w3 hown hgrow
   have hb3:Below w2.heap.size w2 w3:=(Below.refl _ _).grown hgrow (Nat.le_refl _) (fun k h=> by cases h)
   have hB3:Below w.heap.size w w3:=hb2.trans (hb3.mono hb2.size)
   have hs2:w.heap.size≤w2.heap.size:=hb2.size
   have ho3:w3.ownsRow w.heap.size 60 1 (.slice (some ⟨w2.heap.size,0,none⟩) 8 8) 8 ((([]:List Hd)++List.replicate (8 - 0) layH.d).flatMap layH.cs):=by
    rw [List.nil_append,Nat.sub_zero,←made_flat layH (.slice none 0 0) rfl,show layH.k=1 from rfl,Nat.mul_one];exact own_mono hown hs2
   clear hown hgrow hb3 hbo hb2
   go_wp2
   go_loopw [18] (fun iv wr=> ∃(k:Nat) (hs:List Hd),k≤8∧iv=.int .i64 k∧wr.ownsRow w.heap.size 60 1 (.slice (some ⟨w2.heap.size,0,none⟩) 8 8) 8 ((hs++List.replicate (8 - k) layH.d).flatMap layH.cs)∧Tab (fun b=> pairI key b l) k wr w.heap.size hs∧Below w.heap.size w wr)
    (fun iv _=> 8 - (intOf iv).toNat)
   case atStart=> exact ⟨0,[],Nat.zero_le _,rfl,ho3,Tab.nil _ _ _,hB3⟩
   case round=>
    obtain ⟨k,hs,hk8,rfl,hor,htr,hBr⟩:=hrel
    by_cases hlt:k < 8
    ·have hp:=HP.out k wr ((hR.kept hBr (Nat.le_refl _)).le hBr.size)
     have HO:=hide hor
     have HT:=hide htr
     have HB:=hide hBr
     have z1:(k:Int) < 8:=by omega
     have HR:=hide hR
     clear hor htr hBr ho3 hB3 hR
     go_wp2_with fail
     refine hp.mono ?_
     rintro e w4 ⟨v4,rfl,hv4,hb4⟩
     obtain ⟨o4,c4,e4,_⟩:=hv4.open
     rw [e4] at hv4 ⊢
     have HO4:=hide (own_kept HO.out hb4)
     have hln:((hs++List.replicate (8 - k) layH.d).flatMap layH.cs).length=8:=by rw [flat_length,List.length_append,List.length_replicate,HT.out.len,show layH.k=1 from rfl];omega
     have hcl:=HO4.out.cellAt k (by omega)
     have hfr:=HO4.out.frozenAt k
     obtain ⟨u,hu⟩:∃u,w4.cell? ⟨w2.heap.size,k,none⟩=some u:=⟨_,hcl.trans (List.getElem?_eq_getElem (by omega))⟩
     have HO5:=hide (fillT_step (o:=o4) (m:=(pairI key k l).length) (c:=c4) hlt HT.out.len HO4.out)
     have HT4:=(HT.out.kept hb4).snoc HT.out.lt HB.out.size hv4
     have HT5:=hide (HT4.other HO4.out intNe (HO4.out.stored k (.slice o4 (pairI key k l).length c4)).2)
     have HB5:=hide ((HB.out.trans (hb4.mono HB.out.size)).setCell (p:=⟨w2.heap.size,k,none⟩) hs2 (.slice o4 (pairI key k l).length c4))
     clear hv4 hb4 hcl HT4 e4 hp hln
     generalize (pairI key k l).length=q at *
     go_wp2
     go_roundw
     case rel=> exact ⟨k+1,_,by omega,by go_num,HO5.out,HT5.out,HB5.out⟩
     case measure=> simp [intOf];omega
    ·have e:k=8:=by omega
     subst e
     have HO:=hide hor
     have HT:=hide htr
     have HB:=hide hBr
     clear hor htr hBr ho3 hB3
     go_wp2
     go_ret
     refine ⟨_,rfl,.inr ⟨w2.heap.size,hs,by rw [HE.out];rfl, ?_,by rw [HE.out];exact HT.out⟩,HB.out⟩
     have h1:=HO.out
     rw [Nat.sub_self,List.replicate_zero,List.append_nil] at h1
     unfold ownL
     rw [HT.out.len]
     exact h1
  ·rw [Bool.eq_false_iff.2 hl] at hbo
   have HE:=hide (show tabN key l=0 by rw [tabN,if_neg (fun q=> hl q.2)])
   go_enter Tryz.func235,Tryz.ntmps235
   go_wp2_with (first|(go_at_call 173;refine (hkey _).mono ?_;rintro e w1 ⟨rfl,rfl⟩)|(go_at_call 249;refine hbo.mono ?_;rintro e w2 ⟨rfl,hb2⟩))
   go_ret
   exact ⟨_,rfl,.inl ⟨rfl,HE.out⟩,hb2⟩
 ·rw [Bool.eq_false_iff.2 hk] at hkey
  have HE:=hide (show tabN key l=0 by rw [tabN,if_neg (fun q=> hk q.1)])
  go_enter Tryz.func235,Tryz.ntmps235
  go_wp2_with (first|(go_at_call 173;refine (hkey _).mono ?_;rintro e w1 ⟨rfl,rfl⟩))
  go_ret
  exact ⟨_,rfl,.inl ⟨rfl,HE.out⟩,Below.refl _ _⟩
def ringSame (R1 R2:List (List (List Int))):Bool:=decide (R1.length=R2.length) && (List.range R1.length).all (fun i=> movedI (R1.getD i []) (R2.getD i [])==0)
theorem bC7 {C b j:Nat} {w w':World} {u:Value} (h:Below C w w') (hc:w.cell? ⟨b,j,none⟩=some u) (hz:b < C):w'.cell? ⟨b,j,none⟩=some u:=(h.cell (p:=⟨b,j,none⟩) hz).trans hc
theorem RiRows.atS {α:Type} {Q:Nat→Nat→World→Value→α→Prop} {d:α} {a C:Nat} {w:World} {o:Option Addr} {n c:Nat} {xs:List α} (h:RiRows Q d a C w (.slice o n c) xs) (hC:C≤w.heap.size) (i:Nat) (hi:i < xs.length):∃b off u,o=some ⟨b,off,none⟩∧b < C∧w.cell? ⟨b,off+i,none⟩=some u∧Q a C w u (xs.getD i d):=by
 obtain ⟨hs,h0,h1,h2⟩:=h
 obtain ⟨o1,c1,e,r⟩:=h1.open
 injection e with e1 e2 e3
 subst e1
 rcases r with r|⟨b,off,ho,hb,r⟩
 ·subst r;simp at h0;omega
 ·exact ⟨b,off,hv hs i,ho,hb,RdL.head r i (by omega),h2 i hi⟩
theorem ring_same_no {R1 R2:List (List (List Int))} {i:Nat} (hi:i < R1.length) (h:movedI (R1.getD i []) (R2.getD i [])≠0):ringSame R1 R2=false:=by
 unfold ringSame
 rw [Bool.and_eq_false_iff]
 right
 rw [List.all_eq_false]
 exact ⟨i,by simpa using hi,by simpa using h⟩
theorem ring_same_yes {R1 R2:List (List (List Int))} (hl:R1.length=R2.length) (h:∀i,i < R1.length→movedI (R1.getD i []) (R2.getD i [])=0):ringSame R1 R2=true:=by
 unfold ringSame
 rw [decide_eq_true hl,Bool.true_and,List.all_eq_true]
 intro i hi
 rw [h i (by simpa using hi)]
 rfl
theorem ring_same_len {R1 R2:List (List (List Int))} (hl:R1.length≠R2.length):ringSame R1 R2=false:=by
 unfold ringSame;rw [decide_eq_false hl];rfl
theorem RdK.cells3 {C:Nat} {w:World} {o:Option Addr} {l:List Bk} (h:RdK C w o l) (j:Nat) (hj:j < l.length):∃g off,o=some ⟨g,off,none⟩∧g < C∧w.cell? ⟨g,off+j * 3,none⟩=some (.int .i64 (l.getD j (0,0,false)).1)∧w.cell? ⟨g,off+j * 3+1,none⟩=some (.int .i64 (l.getD j (0,0,false)).2.1)∧w.cell? ⟨g,off+j * 3+2,none⟩=some (.bool (l.getD j (0,0,false)).2.2):=by
 rcases h with r|⟨b,off,ho,hb,r⟩
 ·subst r;exact absurd hj (Nat.not_lt_zero _)
 ·exact ⟨b,off,ho,hb,r j hj 0 (by decide),r j hj 1 (by decide),r j hj 2 (by decide)⟩
theorem take_snocK (l:List Bk) (k:Nat) (h:k < l.length):l.take (k+1)=l.take k++[l.getD k (0,0,false)]:=takeL_succ layK l k h
theorem backsEq_any (o1 o2:Option Addr) (n1 n2 c1 c2:Nat) (l1 l2:List Bk) (w:World) (hn1:n1=l1.length) (hn2:n2=l2.length) (h1:RdK w.heap.size w o1 l1) (h2:RdK w.heap.size w o2 l2) (hl1:l1.length≤1048576) (hl2:l2.length≤1048576):
  Calls Tryz.prog 201 #[.slice o1 n1 c1,.slice o2 n2 c2] w fun e w'=> e=.returned (.bool (decide (l1=l2)))∧Below w.heap.size w w':=by
 have HN1:=hide hn1
 have HN2:=hide hn2
 have H1:=hide h1
 have H2:=hide h2
 by_cases hlen:n1=n2
 ·subst hlen
  rw [←hn1] at hl1
  clear hn1 hn2 h1 h2 hl2
  go_enter Tryz.func201,Tryz.ntmps201
  go_wp2
  go_loopw [4,13] (fun rv i wr=> ∃k:Nat,k≤n1∧i=.int .i64 (k:Int)∧rv=.bool false∧Hid (l1.take k=l2.take k)∧Hid (Below w.heap.size w wr))
   (fun _ i _=> n1 - (intOf i).toNat)
  case atStart=> exact ⟨0,Nat.zero_le _,rfl,rfl,rfl,Below.refl _ _⟩
  case round=>
   rename World=> wr
   obtain ⟨k,hk,rfl,rfl,HT,HBr⟩:=hrel
   by_cases hlt:k < n1
   ·have hlt':(k:Int) < (n1:Int):=by omega
    obtain ⟨g1,f1,rfl,hg1,a0,a1,a2⟩:=RdK.cells3 H1.out k (by rw [←HN1.out];exact hlt)
    obtain ⟨g2,f2,rfl,hg2,b0,b1,b2⟩:=RdK.cells3 H2.out k (by rw [←HN2.out];exact hlt)
    have Ga0:=Grown.cell (bC7 HBr.out a0 hg1) (Nat.lt_of_lt_of_le hg1 HBr.out.size)
    have Ga1:=Grown.cell (bC7 HBr.out a1 hg1) (Nat.lt_of_lt_of_le hg1 HBr.out.size)
    have Ga2:=Grown.cell (bC7 HBr.out a2 hg1) (Nat.lt_of_lt_of_le hg1 HBr.out.size)
    have Gb0:=Grown.cell (bC7 HBr.out b0 hg2) (Nat.lt_of_lt_of_le hg2 HBr.out.size)
    have Gb1:=Grown.cell (bC7 HBr.out b1 hg2) (Nat.lt_of_lt_of_le hg2 HBr.out.size)
    have Gb2:=Grown.cell (bC7 HBr.out b2 hg2) (Nat.lt_of_lt_of_le hg2 HBr.out.size)
    have T1:=hide (take_snocK l1 k (by rw [←HN1.out];exact hlt))
    have T2:=hide (take_snocK l2 k (by rw [←HN2.out];exact hlt))
    have N12:Hid (l1=l2→l1.getD k (0,0,false)=l2.getD k (0,0,false)):=fun h=> by rw [h]
    clear a0 a1 a2 b0 b1 b2
    generalize l1.getD k (0,0,false)=d at *
    generalize l2.getD k (0,0,false)=e at *
    by_cases hde:d=e
    ·subst hde
     obtain ⟨d0,d1,d2⟩:=d
     dsimp only at Ga0 Ga1 Ga2 Gb0 Gb1 Gb2
     clear N12
     go_wp2
     (refine wp_region_grown (by kernel_rfl) (by kernel_rfl) ?_;intro hne9;(repeat (go_big_quiet_step (fail)));(with_reducible refine wpQuiet_nil ?_);intro _ hw9;obtain ⟨pq,hw8⟩:=hw9;subst hw8)
     have HB9:=hide (HBr.out.trans (pq.b.mono HBr.out.size))
     go_wp2
     go_roundw
     case rel=> exact ⟨k+1,by omega,by go_num,rfl,(by unfold Hid;rw [T1.out,T2.out,HT.out]),HB9.out⟩
     case measure=> simp [intOf];omega
    ·have HX:Hid (l1≠l2):=fun h=> hde (N12.out h)
     obtain ⟨d0,d1,d2⟩:=d
     obtain ⟨e0,e1,e2⟩:=e
     dsimp only at Ga0 Ga1 Ga2 Gb0 Gb1 Gb2
     have hne:¬(d0=e0∧d1=e1∧d2=e2):=fun h=> hde (by rw [h.1,h.2.1,h.2.2])
     clear hde N12 T1 T2
     by_cases q0:d0=e0
     ·subst q0
      by_cases q1:d1=e1
      ·subst q1
       have q2:¬d2=e2:=fun h=> hne ⟨rfl,rfl,h⟩
       clear hne
       cases d2 <;> cases e2 <;> first|exact absurd rfl q2|skip
       all_goals clear q2
       all_goals go_wp2
       all_goals (refine wp_region_grown (by kernel_rfl) (by kernel_rfl) ?_;intro hne9;(repeat (go_big_quiet_step (fail)));(with_reducible refine wpQuiet_nil ?_);intro _ hw9;obtain ⟨pq,hw8⟩:=hw9;subst hw8)
       all_goals have HB9:=hide (HBr.out.trans (pq.b.mono HBr.out.size))
       all_goals go_wp2
       all_goals go_ret
       all_goals exact ⟨ret_bool (decide_eq_false HX.out).symm,HB9.out⟩
      ·clear hne
       have q1':(d1==e1)=false:=by simpa using q1
       go_wp2
       (refine wp_region_grown (by kernel_rfl) (by kernel_rfl) ?_;intro hne9;(repeat (go_big_quiet_step (fail)));(with_reducible refine wpQuiet_nil ?_);intro _ hw9;obtain ⟨pq,hw8⟩:=hw9;subst hw8)
       have HB9:=hide (HBr.out.trans (pq.b.mono HBr.out.size))
       go_wp2
       go_ret
       exact ⟨ret_bool (decide_eq_false HX.out).symm,HB9.out⟩
     ·clear hne
      have q0':(d0==e0)=false:=by simpa using q0
      go_wp2
      (refine wp_region_grown (by kernel_rfl) (by kernel_rfl) ?_;intro hne9;(repeat (go_big_quiet_step (fail)));(with_reducible refine wpQuiet_nil ?_);intro _ hw9;obtain ⟨pq,hw8⟩:=hw9;subst hw8)
      have HB9:=hide (HBr.out.trans (pq.b.mono HBr.out.size))
      go_wp2
      go_ret
      exact ⟨ret_bool (decide_eq_false HX.out).symm,HB9.out⟩
   ·have e:k=n1:=by omega
    subst e
    have HE:Hid (l1=l2):=by
     have h:=HT.out
     rw [List.take_of_length_le (by rw [←HN1.out];exact Nat.le_refl _),List.take_of_length_le (by rw [←HN2.out];exact Nat.le_refl _)] at h
     exact h
    go_wp2
    go_ret
    exact ⟨ret_bool (decide_eq_true HE.out).symm,HBr.out⟩
 ·have HE:Hid (l1≠l2):=fun h=> hlen (by rw [hn1,hn2,h])
  have hne:¬((n1:Int)=(n2:Int)):=by omega
  clear hn1 hn2 hlen
  go_enter Tryz.func201,Tryz.ntmps201
  go_wp2
  go_ret
  exact ⟨ret_bool (decide_eq_false HE.out).symm,Below.refl _ _⟩
theorem samePairs_any (oa ob:Option Addr) (ca cb na nb:Nat) (aa bb:List (List Int)) (w:World) (hna:na=aa.length) (hnb:nb=bb.length) (hA:RdLL w.heap.size w oa aa) (hB:RdLL w.heap.size w ob bb) (la:aa.length≤1048576) (lb:bb.length≤1048576)
  (xa:∀i,i < aa.length→(aa.getD i []).length≤1048576) (xb:∀i,i < bb.length→(bb.getD i []).length≤1048576):
  Calls Tryz.prog 203 #[.slice oa na ca,.slice ob nb cb] w fun e w'=> e=.returned (.bool (movedI aa bb==0))∧Below w.heap.size w w':=by
 have HM:=hide (implMoved_any oa ob ca cb aa bb w hA hB la lb xa xb)
 rw [←hna,←hnb] at HM
 clear hA hB xa xb hna hnb
 generalize movedI aa bb=q at *
 go_enter Tryz.func203,Tryz.ntmps203
 go_wp2_with fail
 refine HM.out.mono ?_
 rintro e v1 ⟨rfl,hb⟩
 have HB:=hide hb
 clear hb HM
 go_wp2
 go_ret
 exact ⟨rfl,HB.out⟩
theorem eqFunc_any (o1 o2:Option Addr) (n1 n2 c1 c2:Nat) (R1 R2:List (List (List Int))) (w:World) (hn1:n1=R1.length) (hn2:n2=R2.length) (h1:RiR 0 w.heap.size w (.slice o1 n1 c1) R1) (h2:RiR 0 w.heap.size w (.slice o2 n2 c2) R2) (l1:n1≤1048576) (x1:∀i,i < R1.length→(R1.getD i []).length≤1048576) (y1:∀i,i < R1.length→∀j,j < (R1.getD i []).length→((R1.getD i []).getD j []).length≤1048576) (x2:∀i,i < R2.length→(R2.getD i []).length≤1048576) (y2:∀i,i < R2.length→∀j,j < (R2.getD i []).length→((R2.getD i []).getD j []).length≤1048576):
  Calls Tryz.prog 202 #[.slice o1 n1 c1,.slice o2 n2 c2,.func (Fn.func 203) #[] #[]] w fun e w'=> e=.returned (.bool (ringSame R1 R2))∧Below w.heap.size w w':=by
 have eS:∀args w,(callFunc 203 args).run Tryz.prog w=.ok (.enter 203 args) w:=enters_of Tryz.func203 (by kernel_rfl) rfl
 have HN1:=hide hn1
 have HN2:=hide hn2
 have H1:=hide h1
 have H2:=hide h2
 have X1:=hide x1
 have Y1:=hide y1
 have X2:=hide x2
 have Y2:=hide y2
 by_cases hlen:n1=n2
 ·subst hlen
  clear hn1 hn2 h1 h2 x1 y1 x2 y2
  go_enter Tryz.func202,Tryz.ntmps202
  go_wp2
  go_loopw [6,17] (fun rv i wr=> ∃k:Nat,k≤n1∧i=.int .i64 (k:Int)∧rv=.bool false∧Hid (∀q,q < k→movedI (R1.getD q []) (R2.getD q [])=0)∧Hid (Below w.heap.size w wr))
   (fun _ i _=> n1 - (intOf i).toNat)
  case atStart=> exact ⟨0,Nat.zero_le _,rfl,rfl,fun q h=> absurd h (Nat.not_lt_zero _),Below.refl _ _⟩
  case round=>
   rename World=> wr
   obtain ⟨k,hk,rfl,rfl,HT,HBr⟩:=hrel
   by_cases hlt:k < n1
   ·have hlt':(k:Int) < (n1:Int):=by omega
    have hk1:k < R1.length:=by rw [←HN1.out];exact hlt
    have hk2:k < R2.length:=by rw [←HN2.out];exact hlt
    obtain ⟨g1,f1,u1,rfl,hg1,a1,t1⟩:=RiRows.atS H1.out (Nat.le_refl _) k hk1
    obtain ⟨g2,f2,u2,rfl,hg2,a2,t2⟩:=RiRows.atS H2.out (Nat.le_refl _) k hk2
    obtain ⟨o3,c3,rfl,r1⟩:=RiT.rd t1
    obtain ⟨o4,c4,rfl,r2⟩:=RiT.rd t2
    replace a1:=bC7 HBr.out a1 hg1
    replace a2:=bC7 HBr.out a2 hg2
    obtain ⟨m1,hm1⟩:∃n,(R1.getD k []).length=n:=⟨_,rfl⟩
    obtain ⟨m2,hm2⟩:∃n,(R2.getD k []).length=n:=⟨_,rfl⟩
    rw [hm1] at a1
    rw [hm2] at a2
    have HSP:=hide (samePairs_any o3 o4 c3 c4 m1 m2 (R1.getD k []) (R2.getD k []) wr hm1.symm hm2.symm ((r1.kept HBr.out (Nat.le_refl _)).le HBr.out.size) ((r2.kept HBr.out (Nat.le_refl _)).le HBr.out.size) (X1.out k hk1) (X2.out k hk2) (Y1.out k hk1) (Y2.out k hk2))
    have HNO:=hide (fun h=> ring_same_no (R1:=R1) (R2:=R2) hk1 h)
    have HTK:=HT
    clear t1 t2 r1 r2 hm1 hm2
    obtain ⟨q,hq⟩:∃q,movedI (R1.getD k []) (R2.getD k [])=q:=⟨_,rfl⟩
    rw [hq] at HSP HNO
    have HQ:=hide hq
    clear hq
    by_cases h0:q=0
    ·subst h0
     go_wp2_with fail
     refine HSP.out.mono ?_
     rintro e v1 ⟨rfl,hb⟩
     have HB9:=hide (HBr.out.trans (hb.mono HBr.out.size))
     have HT9:Hid (∀q,q < k+1→movedI (R1.getD q []) (R2.getD q [])=0):=fun q hq=> by
      rcases Nat.lt_succ_iff_lt_or_eq.1 hq with h|h
      ·exact HTK.out q h
      ·rw [h];exact HQ.out
     clear hb HSP a1 a2
     go_wp2
     go_roundw
     case rel=> exact ⟨k+1,by omega,by go_num,rfl,HT9.out,HB9.out⟩
     case measure=> simp [intOf];omega
    ·have HE:=hide (HNO.out h0)
     have hqb:(q==0)=false:=by simpa using h0
     rw [hqb] at HSP
     go_wp2_with fail
     refine HSP.out.mono ?_
     rintro e v1 ⟨rfl,hb⟩
     have HB9:=hide (HBr.out.trans (hb.mono HBr.out.size))
     clear hb HSP a1 a2
     go_wp2
     go_ret
     exact ⟨ret_bool HE.out.symm,HB9.out⟩
   ·have e:k=n1:=by omega
    subst e
    have HE:Hid (ringSame R1 R2=true):=ring_same_yes (by rw [←HN1.out,←HN2.out]) (fun i hi=> HT.out i (by rw [HN1.out];exact hi))
    go_wp2
    go_ret
    exact ⟨ret_bool HE.out.symm,HBr.out⟩
 ·have HE:Hid (ringSame R1 R2=false):=ring_same_len (by rw [←hn1,←hn2];exact hlen)
  have hne:¬((n1:Int)=(n2:Int)):=by omega
  clear hn1 hn2 hlen h1 h2 x1 y1 x2 y2
  go_enter Tryz.func202,Tryz.ntmps202
  go_wp2
  go_ret
  exact ⟨ret_bool HE.out.symm,Below.refl _ _⟩
end Go.Proofs.YtgplppfbinfelaaGreat
