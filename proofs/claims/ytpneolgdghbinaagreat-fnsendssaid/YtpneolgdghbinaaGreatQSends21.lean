/- Several texts in one: SContest, STwo, PairMath, SPair, SPair2, STab, RowsP, SBSame, LRing, STab2. -/
import Derived.Test.YtpneolgdghbinaaGreatQSends17
import Derived.Test.YtpneolgdghbinaaGreatQSends20
namespace Go.Proofs.YtpneolgdghbinaaGreat
open Go.ChangeShapes Go.WideShapes Go.ChangeAt Go.RowKit Go.Joins
set_option linter.unusedVariables false
set_option linter.unusedSimpArgs false
set_option maxRecDepth 100000
set_option maxHeartbeats 40000000
def scL (k b:Int) (l:List Bk):List Sc:=(l.filter (fun x=> !x.2.2)).map (fun x=> (x.1,Q20 k b x.1 x.2.1))
theorem Q4K (k b:Int) (l:List Bk) (x:Bk) (h:x.2.2=true):scL k b (l++[x])=scL k b l:=by simp [scL,h]
theorem Q3S (k b:Int) (l:List Bk) (x:Bk) (h:x.2.2=false):scL k b (l++[x])=scL k b l++[(x.1,Q20 k b x.1 x.2.1)]:=by simp [scL,h]
def Holds (lb ls:List Sc):Prop:=lb.length=ls.length∧(∀z,(∃i,i < lb.length∧lb.getD i (0,0)=z)↔z∈ls)∧QhQ lb lb.length
theorem QaQ {l:List Sc} {z:Sc}:(∃i,i < l.length∧l.getD i (0,0)=z)↔z∈l:=by
 constructor
 ·rintro ⟨i,hi,rfl⟩
  rw [show l.getD i (0,0)=l[i] by simp [hi]]
  exact List.getElem_mem hi
 ·intro h
  obtain ⟨i,hi,e⟩:=List.getElem_of_mem h
  exact ⟨i,hi,by simp [hi,e]⟩
theorem Holds.push {lb l' ls:List Sc} {x:Sc} (h:Holds lb ls) (hx:x∉ls) (hs:Same (lb++[x]) l' (lb.length+1)):Holds l' (ls++[x]):=by
 have hl:(lb++[x]).length=lb.length+1:=by simp
 have hl':l'.length=lb.length+1:=hs.1.trans hl
 refine ⟨by rw [hl',h.1];simp,fun z=> ?_, ?_⟩
 ·rw [hl',hs.2.1 z,←hl,QaQ,List.mem_append,List.mem_append,←h.2.1 z,QaQ]
 ·rw [hl']
  refine hs.2.2 (fun i j hi hj e=> ?_)
  rcases Nat.lt_or_ge i lb.length with h1|h1 <;> rcases Nat.lt_or_ge j lb.length with h2|h2
  ·rw [Q1x h1,Q1x h2] at e;exact h.2.2 i j h1 h2 e
  ·rw [Q1x h1,show j=lb.length by omega,Q2U] at e
   exact absurd ((h.2.1 x).1 ⟨i,h1,e⟩) hx
  ·rw [show i=lb.length by omega,Q2U,Q1x h2] at e
   exact absurd ((h.2.1 x).1 ⟨j,h2,e.symm⟩) hx
  ·omega
theorem Qa0 {key b:Int} {l:List Bk} {z:Sc} (h:z∈scL key b l):∃i,i < l.length∧(l.getD i (0,0,false)).1=z.1:=by
 unfold scL at h
 obtain ⟨x,hx,e⟩:=List.mem_map.1 h;obtain ⟨i,hi,e2⟩:=List.getElem_of_mem (List.mem_filter.1 hx).1
 exact ⟨i,hi,by rw [←e];simp [hi,e2]⟩
theorem Q5i {l:List Bk} (h:Q0a l=true):∀j,j < l.length→∀i,i < j→(l.getD i (0,0,false)).1 < (l.getD j (0,0,false)).1:=fun j=> by
 induction j with
 |zero=> intro _ i hi;omega
 |succ j ih=>
  intro hj i hi
  have h1:(l.getD j (0,0,false)).1 < (l.getD (j+1) (0,0,false)).1:=by
   have:=Q1k.1 h (j+1) hj
   unfold QbA at this
   simp only [Bool.and_eq_true,Bool.or_eq_true,decide_eq_true_eq,Nat.add_sub_cancel] at this
   rcases this.2 with h0|h0
   ·omega
   ·exact h0
  rcases Nat.lt_or_ge i j with h2|h2
  ·exact Int.lt_trans (ih (by omega) i h2) h1
  ·rw [show i=j by omega];exact h1
theorem QhC {key b:Int} {l:List Bk} {j:Nat} {x y:Int} {z:Bool} {s:Int} (h:Q0a l=true) (hj:j < l.length) (hxy:l.getD j (0,0,false)=(x,y,z)):(x,s)∉scL key b (l.take j):=fun hm=> by
 obtain ⟨i,hi,e⟩:=Qa0 hm
 have hij:i < j:=by simp at hi;omega
 have:=Q5i h j hj i hij
 rw [hxy] at this
 rw [show (l.take j).getD i (0,0,false)=l.getD i (0,0,false) by simp [List.getD_eq_getElem?_getD,List.getElem?_take,hij]] at e
 dsimp only at e this
 omega
theorem BrdV.kept {k:Nat} {v:Value} {w w':World} {l:List Sc} (h:BrdV k v w l) (hb:Below w.heap.size w w'):BrdV k v w' l:=⟨(hb.block k h.lt).trans h.box,Q03 h.row hb⟩
theorem Q9n {l:List Bk} {j:Nat} {x y:Int} {z:Bool} (hl:Q0a l=true) (hj:j < l.length) (hxy:l.getD j (0,0,false)=(x,y,z)):Q3x x y=true:=by
 have:=Q1k.1 hl j hj
 unfold QbA at this
 rw [hxy] at this
 exact (Bool.and_eq_true_iff.1 this).1
theorem Q8Q (key b:Int) (o:Option Addr) (cap:Nat) (l:List Bk) (w:World) (hR:RdK w.heap.size w o l) (hlen:l.length≤1000) (hk:Q1C key=true) (hbk:0≤b∧b < 8) (hl:Q0a l=true):
  Calls Tryz.prog 190 #[.int .i64 key,.int .i64 b,.slice o l.length cap] w fun e w'=> ∃k v lb,e=.returned (.iface 262 (.pointer (some ⟨k,0,none⟩)))∧BrdV k v w' lb∧Q3M lb lb.length∧okD lb∧Holds lb (scL key b l)∧w.heap.size≤k∧Below w.heap.size w w':=by
 go_enter Tryz.func190,Tryz.ntmps190
 go_wp2
 go_loopw [13] (fun iv wr=> ∃(j:Nat) (v:Value) (lb:List Sc),iv=.int .i64 j∧j≤l.length∧BrdV w.heap.size v wr lb∧Q3M lb lb.length∧okD lb∧Holds lb (scL key b (l.take j))∧lb.length≤j∧Below w.heap.size w wr)
  (fun iv _=> l.length - (intOf iv).toNat)
 case atStart=>
  refine ⟨0,.slice none 0 0,[],rfl,Kcq _,⟨World.alloc_heap_new w _,World.ownsRow_nil _ _ _ _⟩,fun i h1 h2=> by simp at h2,fun i hi=> by simp at hi,⟨rfl,fun z=> by simp [scL],fun i j hi=> by simp at hi⟩,Kcq _,(Below.refl _ _).alloc (Kaq _) _⟩
 case round=>
  obtain ⟨j,v,lb,rfl,hj,hb,hh,ho,hhd,hlb,hBr⟩:=hrel
  by_cases hlt:j < l.length
  ·rcases hR with hR|⟨bb,off,rfl,hbl,hcell⟩
   ·subst hR;simp at hlt
   obtain ⟨x,y,z,hxy⟩:∃x y z,l.getD j (0,0,false)=(x,y,z):=⟨_,_,_,rfl⟩;have hcx:=RdL.back (C:=w.heap.size) hcell j hlt
   rw [hxy] at hcx
   have hc0:wr.cell? ⟨bb,off+j * 3,none⟩=some (.int .i64 x):=(hBr.cell (p:=⟨bb,off+j * 3,none⟩) hbl).trans hcx.1;have hc1:wr.cell? ⟨bb,off+j * 3+1,none⟩=some (.int .i64 y):=(hBr.cell (p:=⟨bb,off+j * 3+1,none⟩) hbl).trans hcx.2.1;have hc2:wr.cell? ⟨bb,off+j * 3+2,none⟩=some (.bool z):=(hBr.cell (p:=⟨bb,off+j * 3+2,none⟩) hbl).trans hcx.2.2;have hts:=Q1p Q12 l j hlt
   rw [show l.getD j Q12.d=l.getD j (0,0,false) from rfl,hxy] at hts
   have hbb:=Q9n hl hlt hxy;obtain ⟨i0,i1,g0,g1⟩:=Q5l.1 hbb;have hnew:=QhC (key:=key) (b:=b) (s:=Q20 key b x y) hl hlt hxy;clear hcell hcx hxy
   cases z with
   |true=>
    have HH:=Q02 (show Holds lb (scL key b (l.take (j+1))) by rw [hts,Q4K _ _ _ _ rfl];exact hhd)
    have HB:=Q02 hb;have HBr:=Q02 hBr;clear hts hhd hb hBr hnew
    go_wp2
    go_roundw
    case rel=> exact ⟨j+1,v,lb,by go_num,by omega,HB.out.kept ((Below.refl _ _).alloc (Kaq _) _),hh,ho,HH.out,by omega,HBr.out.alloc HBr.out.size _⟩
    case measure=> simp [intOf];omega
   |false=>
    have hso:Q1V key b x y=Q20 key b x y:=by rw [Q1V,if_pos ⟨hk,hbk,hbb⟩]
    have hsc:=fun W=> hso ▸ Q8G key b x y false W
    obtain ⟨p0,p1,p2⟩:=Qi7 wr (.int .i64 x) (.int .i64 y) (.bool false) 119
    have hs:wr.heap.size < (wr.alloc (Obj.cells #[Value.int IntKind.i64 x,Value.int IntKind.i64 y,Value.bool false] 119)).heap.size:=by simp
    have hb0:BrdV w.heap.size v (wr.alloc (Obj.cells #[Value.int IntKind.i64 x,Value.int IntKind.i64 y,Value.bool false] 119)) lb:=hb.kept ((Below.refl _ _).alloc (Kaq _) _);have hB0:Below w.heap.size w (wr.alloc (Obj.cells #[Value.int IntKind.i64 x,Value.int IntKind.i64 y,Value.bool false] 119)):=hBr.alloc hBr.size _
    have HH:=Q02 (fun l2 (h2:Same (lb++[(x,Q20 key b x y)]) l2 (lb.length+1))=> (show Holds l2 (scL key b (l.take (j+1))) by rw [hts,Q3S _ _ _ _ rfl];exact hhd.push hnew h2))
    have HL:=Q02 (fun l2 (h2:Same (lb++[(x,Q20 key b x y)]) l2 (lb.length+1))=> (show l2.length≤j+1 by rw [h2.1];simp;omega))
    clear hts hhd hnew
    go_wp2_with fail
    clear hc0 hc1 hc2;generalize (wr.alloc (Obj.cells #[Value.int IntKind.i64 x,Value.int IntKind.i64 y,Value.bool false] 119))=w0 at *;have HB0:=Q02 hb0;have HBB:=Q02 hB0;generalize hscg:Q20 key b x y=sc at *;clear hb0 hB0 hb hBr hscg hso
    go_region_with (first|(go_at_call 192;refine (hsc _).mono ?_;rintro e w1 ⟨rfl,hb1⟩;replace hb1:Below w0.heap.size w0 w1:=(Below.drew (Below.refl _ _)).trans hb1;have q0:=(hb1.cell (p:=⟨wr.heap.size,0,none⟩) hs).trans p0;have q1:=(hb1.cell (p:=⟨wr.heap.size,1,none⟩) hs).trans p1;have q2:=(hb1.cell (p:=⟨wr.heap.size,2,none⟩) hs).trans p2)|(go_at_call 152;refine (Qdv w.heap.size v lb x sc w1 (HB0.out.kept hb1) ho ⟨i0,by omega⟩ hh (by omega)).mono ?_;rintro e w2 ⟨rfl,g2,c2,l2,hb2,hh2,hs2,ho2,hB2⟩))
    all_goals (
     go_wp2
     go_roundw
     case rel=> exact ⟨j+1,_,l2,by go_num,by omega,hb2.v,hh2,ho2,HH.out l2 hs2,HL.out l2 hs2,(HBB.out.trans (hb1.mono HBB.out.size)).trans hB2⟩
     case measure=> simp [intOf];omega)
  ·have e:j=l.length:=by omega
   subst e
   rw [List.take_of_length_le (Kaq _)] at hhd
   go_wp2
   go_ret
   exact ⟨_,v,lb,rfl,hb,hh,ho,hhd,Kaq _,hBr⟩
theorem Q7H (o:Option Addr) (c C:Nat) (l:List Sc) (w:World) (hR:RdL Qb1 C w o l) (h0:0 < l.length):
  Calls Tryz.prog 219 #[.slice o l.length c] w fun e w'=> e=.returned (.int .i64 (l.getD 0 (0,0)).1)∧w=w':=by
 rcases hR with hR|⟨b,off,rfl,hbl,hcell⟩
 ·subst hR;simp at h0
 have hc:=RdL.sc hcell 0 h0;clear hcell;generalize l.getD 0 (0,0)=x at *;obtain ⟨x1,x2⟩:=x
 simp only [Nat.zero_mul,Nat.add_zero] at hc
 obtain ⟨c0,c1⟩:=hc
 have z:(0:Int) < (l.length:Int):=by omega
 go_enter Tryz.func219,Tryz.ntmps219
 go_wp2
 go_ret
 exact ⟨rfl,rfl⟩
def Qf6 (lb:List Sc) (p:List Int):Prop:=
 (lb=[]∧p=[])∨(lb.length=1∧p=[(lb.getD 0 (0,0)).1,(lb.getD 0 (0,0)).1])∨
 ∃l2,QhO lb l2∧Q3M l2 l2.length∧0 < l2.length∧p=[(lb.getD 0 (0,0)).1,(l2.getD 0 (0,0)).1]
theorem Q6w (w:World) (base:Nat) (x y:Int) (hb:base≤w.heap.size):Q9u (w.alloc (.cells #[.int .i64 x,.int .i64 y] 3)) base (.slice (some ⟨w.heap.size,0,none⟩) 2 2) [x,y]:=by
 have:=World.ownsRow_lit (base:=base) (e:=3) (size:=1) w #[.int .i64 x,.int .i64 y] 2 hb (by unfold maxLen;omega) rfl
 exact this
theorem Qag (k:Nat) (v:Value) (lb:List Sc) (w:World) (hb:BrdV k v w lb) (hh:Q3M lb lb.length) (ho:okD lb) (hlen:lb.length≤1000):
  Calls Tryz.prog 189 #[.iface 262 (.pointer (some ⟨k,0,none⟩))] w fun e w'=> ∃v' p,e=.returned v'∧Qf6 lb p∧Q9u w' k v' p∧Below k w w':=by
 have eN:∀args w,(callFunc 214 args).run Tryz.prog w=.ok (.enter 214 args) w:=enters_of Tryz.func214 (by kernel_rfl) rfl
 have eB:∀args w,(callFunc 219 args).run Tryz.prog w=.ok (.enter 219 args) w:=enters_of Tryz.func219 (by kernel_rfl) rfl
 obtain ⟨o,c,rfl⟩:=hb.slice;have hc:=hb.cell;have mN:=Q0N Q8J hc;have hklt:=hb.lt
 by_cases h0:lb.length=0
 ·have e:lb=[]:=List.eq_nil_of_length_eq_zero h0
  subst e
  simp only [List.length_nil] at mN
  go_enter Tryz.func189,Tryz.ntmps189
  go_wp2_with (first|(go_at_call 214;refine (Q3c _ _ _ _).mono ?_;rintro e w2 ⟨rfl,rfl⟩))
  go_ret
  exact ⟨_,[],rfl,.inl ⟨rfl,rfl⟩,World.ownsRow_nil _ _ _ _,Below.refl _ _⟩
 ·have hpos:0 < lb.length:=by omega
  have hn0:((lb.length:Int)==0)=false:=by rw [beq_eq_false_iff_ne];omega
  have HN0:=Q02 h0;obtain ⟨g,c1,he⟩:=ownsRow_form hb.row hpos
  simp only [Value.slice.injEq] at he
  obtain ⟨rfl,_,rfl⟩:=he;have hB:Brd k g c w lb:=⟨hb.box,hb.row⟩;have hrd:=hB.row.rd
  obtain ⟨n,hn⟩:∃n,n+1=lb.length:=⟨lb.length - 1,by omega⟩
  have hpop:=Qfv k g c lb n w hB hn ho hh (by omega)
  have hbest:=Q7H (some ⟨g,0,none⟩) c w.heap.size lb w hrd hpos;generalize hfst:(lb.getD 0 (0,0)).1=fst at hbest;have HF:=Q02 hfst;clear h0 hn hfst
  go_enter Tryz.func189,Tryz.ntmps189
  go_wp2_with (first|(go_at_call 214;refine (Q3c _ _ _ _).mono ?_;rintro e w2 ⟨rfl,rfl⟩))
  rw [Q0N (f:=219) ?hm hc]
  case hm=> kernel_rfl
  go_wp2_with (first|(go_at_call 219;refine hbest.mono ?_;rintro e w2 ⟨rfl,rfl⟩))
  refine hpop.mono ?_
  rintro e w3 ⟨⟨v3,rfl⟩,l2,hb3,hh3,hr3,ho3,hB3⟩
  have hk3:=hb3.v.lt
  have hl2:l2.length≤1000:=by have:=hr3.1;omega
  have mN3:=Q0N Q8J hb3.cell;clear mN hpop hbest hrd hb hB hc
  by_cases h2:l2.length=0
  ·have e:l2=[]:=List.eq_nil_of_length_eq_zero h2
   subst e
   simp only [List.length_nil] at mN3
   have HT:Hid (Qf6 lb [fst,fst]):=.inr (.inl ⟨by have:=hr3.1;simpa using this.symm,by rw [HF.out]⟩)
   have HO:=Q02 (Q6w w3 k fst fst (by omega))
   have HB:=Q02 hB3;clear hr3 hh3 ho3 hB3 HF
   go_wp2_with (first|(go_at_call 214;refine (Q3c _ _ _ _).mono ?_;rintro e w2 ⟨rfl,rfl⟩))
   go_ret
   exact ⟨_,[fst,fst],rfl,HT.out,HO.out,HB.out.alloc (by omega) _⟩
  ·have hpos2:0 < l2.length:=by omega
   have hn2:((l2.length:Int)==0)=false:=by rw [beq_eq_false_iff_ne];omega
   have hc3:=hb3.cell;have hbest2:=Q7H (some ⟨g,0,none⟩) c w3.heap.size l2 w3 hb3.row.rd hpos2
   have HT:Hid (Qf6 lb [fst,(l2.getD 0 (0,0)).1]):=.inr (.inr ⟨l2,hr3,hh3,hpos2,by rw [HF.out]⟩)
   generalize (l2.getD 0 (0,0)).1=snd at *
   have HO:=Q02 (Q6w w3 k fst snd (by omega))
   have HB:=Q02 hB3;clear hr3 hh3 ho3 hB3 HF h2
   go_wp2_with (first|(go_at_call 214;refine (Q3c _ _ _ _).mono ?_;rintro e w2 ⟨rfl,rfl⟩))
   rw [Q0N (f:=219) ?hm2 hc3]
   case hm2=> kernel_rfl
   go_wp2_with (first|(go_at_call 219;refine hbest2.mono ?_;rintro e w2 ⟨rfl,rfl⟩))
   go_ret
   exact ⟨_,[fst,snd],rfl,HT.out,HO.out,HB.out.alloc (by omega) _⟩
def Q10 (p:Option Sc × Option Sc) (x:Sc):Option Sc × Option Sc:=
 match p with
 |(none,t)=> (some x,none)
 |(some o,t)=> if o.2 < x.2 then (some x,some o) else
  match t with
  |none=> (some o,some x)
  |some u=> if u.2 < x.2 then (some o,some x) else (some o,some u)
def Q5p (l:List Sc):Option Sc × Option Sc:=l.foldl Q10 (none,none)
theorem Q94 (l:List Sc) (x:Sc):Q5p (l++[x])=Q10 (Q5p l) x:=by simp [Q5p]
def Q7r (p:Option Sc × Option Sc):List Int:=
 match p with
 |(none,_)=> []
 |(some o,none)=> [o.1,o.1]
 |(some o,some t)=> [o.1,t.1]
def Qhg (l:List Sc) (p:Option Sc × Option Sc):Prop:=
 match p with
 |(none,t)=> l=[]∧t=none
 |(some o,none)=> l=[o]
 |(some o,some t)=> o∈l∧t∈l∧t≠o∧(∀z∈l,Q4O o≤Q4O z)∧(∀z∈l,z≠o→Q4O t≤Q4O z)
theorem Qa9 {o x:Sc} (ho:okS o) (hx:okS x) (h:o.2 < x.2):Q4O x < Q4O o:=by unfold Q4O okS at *;omega
theorem QaI {o x:Sc} (ho:okS o) (hx:okS x) (hid:o.1 < x.1) (h:¬o.2 < x.2):Q4O o < Q4O x:=by unfold Q4O okS at *;omega
theorem Qb2 {a b:Sc} (ha:okS a) (hb:okS b) (h:Q4O a=Q4O b):a=b:=by
 obtain ⟨a1,a2⟩:=a;obtain ⟨b1,b2⟩:=b
 unfold Q4O okS at *
 dsimp only at *
 have h1:a2=b2:=by omega
 have h2:a1=b1:=by omega
 rw [h1,h2]
theorem Qea {l:List Sc} {p:Option Sc × Option Sc} {x:Sc} (h:Qhg l p) (hok:∀z∈l,okS z) (hx:okS x) (hid:∀z∈l,z.1 < x.1):Qhg (l++[x]) (Q10 p x):=by
 have hne:∀z∈l,z≠x:=fun z hz e=> by have:=hid z hz;rw [e] at this;omega
 obtain ⟨p1,p2⟩:=p
 cases p1 with
 |none=>
  obtain ⟨h1,h2⟩:l=[]∧p2=none:=h;subst h1 h2
  rfl
 |some o=>
  cases p2 with
  |none=>
   have h1:l=[o]:=h;subst h1
   have oo:=hok o (by simp)
   have oi:=hid o (by simp)
   unfold Q10
   by_cases hlt:o.2 < x.2
   ·simp only [if_pos hlt]
    have:=Qa9 oo hx hlt
    refine ⟨by simp,by simp,fun e=> hne o (by simp) e,fun z hz=> ?_,fun z hz hzx=> ?_⟩
    ·simp at hz;rcases hz with e|e <;> subst e <;> omega
    ·simp at hz;rcases hz with e|e
     ·subst e;omega
     ·exact absurd e hzx
   ·simp only [if_neg hlt]
    have:=QaI oo hx oi hlt
    refine ⟨by simp,by simp,fun e=> hne o (by simp) e.symm,fun z hz=> ?_,fun z hz hzo=> ?_⟩
    ·simp at hz;rcases hz with e|e <;> subst e <;> omega
    ·simp at hz;rcases hz with e|e
     ·exact absurd e hzo
     ·subst e;omega
  |some t=>
   obtain ⟨ho,ht,hto,hmin,hmin2⟩:o∈l∧t∈l∧t≠o∧(∀z∈l,Q4O o≤Q4O z)∧(∀z∈l,z≠o→Q4O t≤Q4O z):=h;have oo:=hok o ho;have ot:=hok t ht;have oi:=hid o ho;have ti:=hid t ht
   unfold Q10
   by_cases hlt:o.2 < x.2
   ·simp only [if_pos hlt]
    have hr:=Qa9 oo hx hlt
    refine ⟨by simp,List.mem_append.2 (.inl ho),hne o ho,fun z hz=> ?_,fun z hz hzx=> ?_⟩
    ·rcases List.mem_append.1 hz with hz|hz
     ·have:=hmin z hz;omega
     ·simp at hz;subst hz;omega
    ·rcases List.mem_append.1 hz with hz|hz
     ·exact hmin z hz
     ·simp at hz;exact absurd hz hzx
   ·simp only [if_neg hlt]
    have hr:=QaI oo hx oi hlt
    by_cases hlt2:t.2 < x.2
    ·simp only [if_pos hlt2]
     have hr2:=Qa9 ot hx hlt2
     refine ⟨List.mem_append.2 (.inl ho),by simp,fun e=> hne o ho e.symm,fun z hz=> ?_,fun z hz hzo=> ?_⟩
     ·rcases List.mem_append.1 hz with hz|hz
      ·exact hmin z hz
      ·simp at hz;subst hz;omega
     ·rcases List.mem_append.1 hz with hz|hz
      ·have:=hmin2 z hz hzo;omega
      ·simp at hz;subst hz;omega
    ·simp only [if_neg hlt2]
     have hr2:=QaI ot hx ti hlt2
     refine ⟨List.mem_append.2 (.inl ho),List.mem_append.2 (.inl ht),hto,fun z hz=> ?_,fun z hz hzo=> ?_⟩
     ·rcases List.mem_append.1 hz with hz|hz
      ·exact hmin z hz
      ·simp at hz;subst hz;omega
     ·rcases List.mem_append.1 hz with hz|hz
      ·exact hmin2 z hz hzo
      ·simp at hz;subst hz;omega
theorem Qfd {lb ls:List Sc} {p:Option Sc × Option Sc} {q:List Int} (hB:Qhg ls p) (hok:∀z∈ls,okS z) (hH:Holds lb ls) (hh:Q3M lb lb.length) (hT:Qf6 lb q):q=Q7r p:=by
 have hm:=hH.2.1;obtain ⟨p1,p2⟩:=p
 rcases hT with ⟨h1,h2⟩|⟨h1,h2⟩|⟨l2,hr,hh2,hpos,h2⟩
 ·subst h1 h2
  have:ls=[]:=List.eq_nil_of_length_eq_zero hH.1.symm;subst this
  cases p1 with
  |none=> rfl
  |some o=>
   cases p2 with
   |none=> cases (hB:[]=[o])
   |some t=> exact absurd hB.1 (by simp)
 ·obtain ⟨o,ho⟩:∃o,ls=[o]:=List.length_eq_one_iff.1 (hH.1.symm.trans h1)
  subst ho
  have e0:lb.getD 0 (0,0)=o:=by
   have:=(hm (lb.getD 0 (0,0))).1 ⟨0,by omega,rfl⟩
   simpa using this
  rw [h2,e0]
  cases p1 with
  |none=> cases (hB.1:[o]=[])
  |some o'=>
   cases p2 with
   |none=> have:[o]=[o']:=hB;simp at this;subst this;rfl
   |some t=>
    obtain ⟨a1,a2,a3,_⟩:o'∈[o]∧t∈[o]∧t≠o'∧_:=hB
    simp at a1 a2;rw [a1,a2] at a3;exact absurd rfl a3
 ·have hl2:=hr.1
  have hd:=hH.2.2
  have m0:lb.getD 0 (0,0)∈ls:=(hm _).1 ⟨0,by omega,rfl⟩
  have top:∀z∈ls,Q4O (lb.getD 0 (0,0))≤Q4O z:=fun z hz=> by
   obtain ⟨i,hi,e⟩:=(hm z).2 hz;have:=Qb4 hh i hi
   unfold fr at this
   rw [e] at this;exact this
  obtain ⟨i2,hi2a,hi2b,ei2⟩:=(hr.2 (l2.getD 0 (0,0))).1 ⟨0,hpos,rfl⟩;have m2:l2.getD 0 (0,0)∈ls:=(hm _).1 ⟨i2,hi2b,ei2⟩
  have ne2:l2.getD 0 (0,0)≠lb.getD 0 (0,0):=fun e=> by
   have:=hd i2 0 hi2b (by omega) (ei2.trans e);omega
  have top2:∀z∈ls,z≠lb.getD 0 (0,0)→Q4O (l2.getD 0 (0,0))≤Q4O z:=fun z hz hne=> by
   obtain ⟨i,hi,e⟩:=(hm z).2 hz
   have hi1:1≤i:=by
    rcases Nat.eq_zero_or_pos i with h|h
    ·subst h;exact absurd e.symm hne
    ·exact h
   obtain ⟨i',hi',e'⟩:=(hr.2 z).2 ⟨i,hi1,hi,e⟩;have:=Qb4 hh2 i' hi'
   unfold fr at this
   rw [e'] at this;exact this
  cases p1 with
  |none=> have:ls=[]:=hB.1;rw [this] at m0;cases m0
  |some o=>
   cases p2 with
   |none=>
    have h1:ls=[o]:=hB
    rw [h1] at m0 m2
    simp at m0 m2
    exact absurd (m2.trans m0.symm) ne2
   |some t=>
    obtain ⟨ho,ht,hto,hmin,hmin2⟩:o∈ls∧t∈ls∧t≠o∧(∀z∈ls,Q4O o≤Q4O z)∧(∀z∈ls,z≠o→Q4O t≤Q4O z):=hB;have e0:lb.getD 0 (0,0)=o:=Qb2 (hok _ m0) (hok o ho) (Int.le_antisymm (top o ho) (hmin _ m0))
    rw [e0] at ne2 top2
    have e2:l2.getD 0 (0,0)=t:=Qb2 (hok _ m2) (hok t ht) (Int.le_antisymm (top2 t ht hto) (hmin2 _ m2 ne2))
    rw [h2,e0,e2]
    rfl
def Qbs (key b:Int) (x:Bk):Sc:=(x.1,Q20 key b x.1 x.2.1)
def Qe3 (key b:Int) (l:List Bk) (v:Int) (q:Option Sc):Prop:=(v= -1∧q=none)∨∃k:Nat,v=(k:Int)∧k < l.length∧q=some (Qbs key b (l.getD k (0,0,false)))
theorem QdI {key b:Int} {l:List Bk} {j:Nat} {x y:Int} (hlt:j < l.length) (hxy:l.getD j (0,0,false)=(x,y,false)):Q5p (scL key b (l.take (j+1)))=Q10 (Q5p (scL key b (l.take j))) (Qbs key b (x,y,false)):=by
 have hts:=Q1p Q12 l j hlt
 rw [show l.getD j Q12.d=l.getD j (0,0,false) from rfl,hxy] at hts
 rw [hts,Q3S _ _ _ _ rfl,Q94];rfl
theorem QcF {key b:Int} {l:List Bk} {j:Nat} {x y:Int} (hlt:j < l.length) (hxy:l.getD j (0,0,false)=(x,y,true)):Q5p (scL key b (l.take (j+1)))=Q5p (scL key b (l.take j)):=by
 have hts:=Q1p Q12 l j hlt
 rw [show l.getD j Q12.d=l.getD j (0,0,false) from rfl,hxy] at hts
 rw [hts,Q4K _ _ _ _ rfl]
theorem Q3R {l:List Bk} (h:Q0a l=true) {k:Nat} (hk:k < l.length) {x y:Int} {z:Bool} (hxy:l.getD k (0,0,false)=(x,y,z)):0≤x∧x < 6∧1≤y∧y≤100:=Q5l.1 (Q9n h hk hxy)
theorem Qcf (key b:Int) (o:Option Addr) (cap:Nat) (l:List Bk) (w:World) (hR:RdK w.heap.size w o l) (hlen:l.length≤1000) (hk:Q1C key=true) (hbk:0≤b∧b < 8) (hl:Q0a l=true):
  Calls Tryz.prog 150 #[.int .i64 key,.int .i64 b,.slice o l.length cap] w fun e w'=> ∃v,e=.returned v∧Q9u w' w.heap.size v (Q7r (Q5p (scL key b l)))∧Below w.heap.size w w':=by
 obtain ⟨hk1,hk2⟩:=Q2W.1 hk
 have hsc:=fun k (hk:k < l.length) x y z (hxy:l.getD k (0,0,false)=(x,y,z)) W=> have h:=Q3R hl hk hxy;Qac key b x y z W hk1 hk2 hbk.1 hbk.2 h.1 h.2.1 (by omega) h.2.2.2
 have HSC:=Q02 hsc;clear hsc
 go_enter Tryz.func150,Tryz.ntmps150
 go_wp2
 go_loopw [7,8,9] (fun one two iv wr=> ∃(j:Nat) (v1 v2:Int),iv=.int .i64 j∧one=.int .i64 v1∧two=.int .i64 v2∧j≤l.length∧Qe3 key b l v1 (Q5p (scL key b (l.take j))).1∧Qe3 key b l v2 (Q5p (scL key b (l.take j))).2∧Below w.heap.size w wr)
  (fun _ _ iv _=> l.length - (intOf iv).toNat)
 case atStart=> exact ⟨0, -1, -1,rfl,rfl,rfl,Kcq _,.inl ⟨rfl,by simp [scL,Q5p]⟩,.inl ⟨rfl,by simp [scL,Q5p]⟩,Below.refl _ _⟩
 case round=>
  obtain ⟨j,v1,v2,rfl,rfl,rfl,hj,hi1,hi2,hBr⟩:=hrel
  by_cases hlt:j < l.length
  ·rcases hR with hR|⟨bb,off,rfl,hbl,hcell⟩
   ·subst hR;simp at hlt
   have HC:=Q02 (fun k (hk:k < l.length) W (hW:Below w.heap.size w W)=> have h:=RdL.back (C:=w.heap.size) hcell k hk;(show W.cell? ⟨bb,off+k * 3,none⟩=some (.int .i64 (l.getD k (0,0,false)).1)∧W.cell? ⟨bb,off+k * 3+1,none⟩=some (.int .i64 (l.getD k (0,0,false)).2.1)∧W.cell? ⟨bb,off+k * 3+2,none⟩=some (.bool (l.getD k (0,0,false)).2.2) from ⟨(hW.cell (p:=⟨bb,off+k * 3,none⟩) hbl).trans h.1,(hW.cell (p:=⟨bb,off+k * 3+1,none⟩) hbl).trans h.2.1,(hW.cell (p:=⟨bb,off+k * 3+2,none⟩) hbl).trans h.2.2⟩))
   clear hcell;have hcx:=HC.out j hlt wr hBr;obtain ⟨x,y,z,hxy⟩:∃x y z,l.getD j (0,0,false)=(x,y,z):=⟨_,_,_,rfl⟩
   rw [hxy] at hcx
   dsimp only at hcx
   obtain ⟨c0,c1,c2⟩:=hcx
   have z1:(j:Int) < (l.length:Int):=by omega
   cases z with
   |true=>
    have HP:=Q02 (QcF (key:=key) (b:=b) hlt hxy);have HB:=Q02 hBr;have H1:=Q02 hi1;have H2:=Q02 hi2;clear hxy hBr hi1 hi2
    go_wp2
    go_roundw
    case rel=> exact ⟨j+1,v1,v2,by go_num,rfl,rfl,by omega,by rw [HP.out];exact H1.out,by rw [HP.out];exact H2.out,HB.out⟩
    case measure=> simp [intOf];omega
   |false=>
    have HP:=Q02 (QdI (key:=key) (b:=b) hlt hxy);have hsI:=HSC.out j hlt x y false hxy
    have HJ:Hid (Qe3 key b l (j:Int) (some (Qbs key b (x,y,false)))):=.inr ⟨j,rfl,hlt,by rw [hxy]⟩
    generalize hg:Qbs key b (x,y,false)=sx at *;obtain ⟨sid,sc⟩:=sx
    have hscx:Q20 key b x y=sc:=by simp [Qbs] at hg;exact hg.2
    rw [hscx] at hsI
    have HB:=Q02 hBr;clear hxy hBr hg hscx;generalize Q5p (scL key b (l.take j))=pp at *;obtain ⟨p1,p2⟩:=pp
    dsimp only at hi1 hi2
    rcases hi1 with ⟨rfl,rfl⟩|⟨k1,rfl,hk1l,rfl⟩
    ·go_wp2_with fail
     refine (hsI wr).mono ?_
     rintro e w1 ⟨rfl,hb1⟩
     have HB1:=Q02 (HB.out.trans (hb1.mono HB.out.size));clear c0 c1 c2 hsI hb1 hi2
     go_wp2
     go_roundw
     case rel=> exact ⟨j+1,j, -1,by go_num,rfl,rfl,by omega,by rw [HP.out];exact HJ.out,by rw [HP.out];exact .inl ⟨rfl,rfl⟩,HB1.out⟩
     case measure=> simp [intOf];omega
    ·obtain ⟨x1,y1,t1,hxy1⟩:∃x y z,l.getD k1 (0,0,false)=(x,y,z):=⟨_,_,_,rfl⟩
     have hs1:=HSC.out k1 hk1l x1 y1 t1 hxy1
     have HI1:Hid (Qe3 key b l (k1:Int) (some (Qbs key b (x1,y1,t1)))):=.inr ⟨k1,rfl,hk1l,by rw [hxy1]⟩
     have HC1:=HC.out k1 hk1l
     rw [hxy1] at HP HC1
     dsimp only at HC1
     generalize hg1:Qbs key b (x1,y1,t1)=s1 at *;obtain ⟨id1,sc1⟩:=s1
     have hsc1:Q20 key b x1 y1=sc1:=by simp [Qbs] at hg1;exact hg1.2
     rw [hsc1] at hs1
     have z2:(k1:Int) < (l.length:Int):=by omega
     have z3:¬((k1:Int) < 0):=by omega
     have HCC1:=Q02 HC1;clear hxy1 hg1 hsc1 HC1
     go_wp2_with fail
     refine (hsI wr).mono ?_
     rintro e w1 ⟨rfl,hb1⟩
     have HB1:=Q02 (HB.out.trans (hb1.mono HB.out.size));obtain ⟨d0,d1,d2⟩:=HCC1.out w1 HB1.out;clear c0 c1 c2 hsI hb1
     go_wp2_with fail
     refine (hs1 w1).mono ?_
     rintro e w2 ⟨rfl,hb2⟩
     have HB2:=Q02 (HB1.out.trans (hb2.mono HB1.out.size));clear d0 d1 d2 hs1 hb2
     by_cases hgt:sc1 < sc
     ·have HE:Hid (Q10 (some (id1,sc1),p2) (sid,sc)=(some (sid,sc),some (id1,sc1))):=by simp [Q10,hgt,Hid]
      clear hi2
      go_wp2
      go_roundw
      case rel=> exact ⟨j+1,j,k1,by go_num,rfl,rfl,by omega,by rw [HP.out,HE.out];exact HJ.out,by rw [HP.out,HE.out];exact HI1.out,HB2.out⟩
      case measure=> simp [intOf];omega
     ·rcases hi2 with ⟨rfl,rfl⟩|⟨k2,rfl,hk2l,rfl⟩
      ·have HE:Hid (Q10 (some (id1,sc1),none) (sid,sc)=(some (id1,sc1),some (sid,sc))):=by simp [Q10,hgt,Hid]
       go_wp2
       go_roundw
       case rel=> exact ⟨j+1,k1,j,by go_num,rfl,rfl,by omega,by rw [HP.out,HE.out];exact HI1.out,by rw [HP.out,HE.out];exact HJ.out,HB2.out⟩
       case measure=> simp [intOf];omega
      ·obtain ⟨x2,y2,t2,hxy2⟩:∃x y z,l.getD k2 (0,0,false)=(x,y,z):=⟨_,_,_,rfl⟩
       have hs2:=HSC.out k2 hk2l x2 y2 t2 hxy2
       have HI2:Hid (Qe3 key b l (k2:Int) (some (Qbs key b (x2,y2,t2)))):=.inr ⟨k2,rfl,hk2l,by rw [hxy2]⟩
       have HC2:=HC.out k2 hk2l
       rw [hxy2] at HP HC2
       dsimp only at HC2
       generalize hg2:Qbs key b (x2,y2,t2)=s2 at *;obtain ⟨id2,sc2⟩:=s2
       have hsc2:Q20 key b x2 y2=sc2:=by simp [Qbs] at hg2;exact hg2.2
       rw [hsc2] at hs2
       have z4:(k2:Int) < (l.length:Int):=by omega
       have z5:¬((k2:Int) < 0):=by omega
       obtain ⟨f0,f1,f2⟩:=HC2 w2 HB2.out;clear hxy2 hg2 hsc2 HC2
       go_wp2_with fail
       refine (hs2 w2).mono ?_
       rintro e w3 ⟨rfl,hb3⟩
       have HB3:=Q02 (HB2.out.trans (hb3.mono HB2.out.size));clear f0 f1 f2 hs2 hb3
       by_cases hgt2:sc2 < sc
       ·have HE:Hid (Q10 (some (id1,sc1),some (id2,sc2)) (sid,sc)=(some (id1,sc1),some (sid,sc))):=by unfold Hid;simp only [Q10,if_neg (show ¬sc1 < sc by omega),if_pos hgt2]
        go_wp2
        go_roundw
        case rel=> exact ⟨j+1,k1,j,by go_num,rfl,rfl,by omega,by rw [HP.out,HE.out];exact HI1.out,by rw [HP.out,HE.out];exact HJ.out,HB3.out⟩
        case measure=> simp [intOf];omega
       ·have HE:Hid (Q10 (some (id1,sc1),some (id2,sc2)) (sid,sc)=(some (id1,sc1),some (id2,sc2))):=by unfold Hid;simp only [Q10,if_neg (show ¬sc1 < sc by omega),if_neg (show ¬sc2 < sc by omega)]
        go_wp2
        go_roundw
        case rel=> exact ⟨j+1,k1,k2,by go_num,rfl,rfl,by omega,by rw [HP.out,HE.out];exact HI1.out,by rw [HP.out,HE.out];exact HI2.out,HB3.out⟩
        case measure=> simp [intOf];omega
  ·have e:j=l.length:=by omega
   subst e
   rw [List.take_of_length_le (Kaq _)] at hi1 hi2
   have HQ:=Q02 (show Q5p (scL key b l)=((Q5p (scL key b l)).1,(Q5p (scL key b l)).2) from rfl);generalize (Q5p (scL key b l)).1=p1 at *;generalize (Q5p (scL key b l)).2=p2 at *;have HB:=Q02 hBr
   have z0:¬(l.length:Int) < (l.length:Int):=by omega
   rcases hi1 with ⟨rfl,rfl⟩|⟨k1,rfl,hk1l,rfl⟩
   ·clear hBr hi2
    go_wp2
    go_ret
    exact ⟨_,rfl,by rw [HQ.out];exact World.ownsRow_nil _ _ _ _,HB.out⟩
   ·rcases hR with hR|⟨bb,off,rfl,hbl,hcell⟩
    ·subst hR;simp at hk1l
    have h1:=RdL.back (C:=w.heap.size) hcell k1 hk1l;have c1:=(hBr.cell (p:=⟨bb,off+k1 * 3,none⟩) hbl).trans h1.1
    have z2:(k1:Int) < (l.length:Int):=by omega
    have z3:¬((k1:Int) < 0):=by omega
    have HI1:Hid ((Qbs key b (l.getD k1 (0,0,false))).1=(l.getD k1 (0,0,false)).1):=rfl;generalize Qbs key b (l.getD k1 (0,0,false))=s1 at *
    rcases hi2 with ⟨rfl,rfl⟩|⟨k2,rfl,hk2l,rfl⟩
    ·have HO:=Q02 (fun W (hW:w.heap.size≤W.heap.size)=> Q6w W w.heap.size (l.getD k1 (0,0,false)).1 (l.getD k1 (0,0,false)).1 hW)
     have HPL:Hid (Q7r (Q5p (scL key b l))=[(l.getD k1 (0,0,false)).1,(l.getD k1 (0,0,false)).1]):=by unfold Hid;rw [HQ.out];show [s1.1,s1.1]=_;rw [HI1.out]
     generalize (l.getD k1 (0,0,false)).1=x1 at *;have hsz:=HB.out.size;clear hBr hcell h1
     go_wp2
     go_region
     all_goals go_wp2
     all_goals go_ret
     all_goals exact ⟨_,rfl,by rw [HPL.out];exact (HO.out wr hsz).drew,(HB.out.alloc hsz _).drew⟩
    ·have h2:=RdL.back (C:=w.heap.size) hcell k2 hk2l
     have c2:=(hBr.cell (p:=⟨bb,off+k2 * 3,none⟩) hbl).trans h2.1
     have z4:(k2:Int) < (l.length:Int):=by omega
     have z5:¬((k2:Int) < 0):=by omega
     have HO:=Q02 (fun W (hW:w.heap.size≤W.heap.size)=> Q6w W w.heap.size (l.getD k1 (0,0,false)).1 (l.getD k2 (0,0,false)).1 hW)
     have HPL:Hid (Q7r (Q5p (scL key b l))=[(l.getD k1 (0,0,false)).1,(l.getD k2 (0,0,false)).1]):=by unfold Hid;rw [HQ.out];show [s1.1,(Qbs key b (l.getD k2 (0,0,false))).1]=_;rw [HI1.out];rfl
     generalize (l.getD k1 (0,0,false)).1=x1 at *;generalize (l.getD k2 (0,0,false)).1=x2 at *;have hsz:=HB.out.size;clear hBr hcell h1 h2
     go_wp2
     go_region
     all_goals go_wp2
     all_goals go_ret
     all_goals exact ⟨_,rfl,by rw [HPL.out];exact (HO.out wr hsz).drew,(HB.out.alloc hsz _).drew⟩
def Q0Z (key b:Int) (l:List Bk):List Int:=if Q1C key=true∧(0≤b∧b < 8)∧Q0a l=true then Q7r (Q5p (scL key b l)) else []
theorem Q9x (key b:Int) (l:List Bk):(Q0Z key b l).length≤2:=by
 unfold Q0Z
 split
 ·unfold Q7r;split <;> simp
 ·simp
theorem Q3W {l:List Bk} (h:Q0a l=true):l.length≤6:=by
 have key:∀j,j < l.length→(j:Int)≤(l.getD j (0,0,false)).1:=fun j=> by
  induction j with
  |zero=>
   intro hj
   obtain ⟨x,y,z,hxy⟩:∃x y z,l.getD 0 (0,0,false)=(x,y,z):=⟨_,_,_,rfl⟩;have:=Q3R h hj hxy
   rw [hxy];simpa using this.1
  |succ j ih=>
   intro hj
   have h1:=ih (by omega)
   have h2:=Q5i h (j+1) hj j (by omega)
   omega
 rcases Nat.lt_or_ge 6 l.length with h7|h7
 ·obtain ⟨x,y,z,hxy⟩:∃x y z,l.getD 6 (0,0,false)=(x,y,z):=⟨_,_,_,rfl⟩
  have h1:=key 6 h7;have h2:=Q3R h h7 hxy
  rw [hxy] at h1
  dsimp only at h1
  omega
 ·exact h7
theorem Q7S {key b:Int} {l:List Bk} (h:Q0a l=true) {z:Sc} (hz:z∈scL key b l):okS z:=by
 obtain ⟨i,hi,e⟩:=Qa0 hz;obtain ⟨x,y,t,hxy⟩:∃x y z,l.getD i (0,0,false)=(x,y,z):=⟨_,_,_,rfl⟩;have:=Q3R h hi hxy
 rw [hxy] at e
 unfold okS
 rw [←e]
 dsimp only
 omega
theorem Q8E {l:List Bk} (h:Q0a l=true) (j:Nat):Q0a (l.take j)=true:=by
 rw [Q1k] at *
 intro i hi
 have hi':i < l.length:=by simp at hi;omega
 have hij:i < j:=by simp at hi;omega
 have:=h i hi'
 unfold QbA at *
 have e1:(l.take j).getD i (0,0,false)=l.getD i (0,0,false):=by simp [List.getD_eq_getElem?_getD,List.getElem?_take,hij]
 have e2:(l.take j).getD (i - 1) (0,0,false)=l.getD (i - 1) (0,0,false):=by simp [List.getD_eq_getElem?_getD,List.getElem?_take,show i - 1 < j by omega]
 rw [e1,e2];exact this
theorem Qfi {key b:Int} {l:List Bk} (h:Q0a l=true):Qhg (scL key b l) (Q5p (scL key b l)):=by
 have key':∀j,j≤l.length→Qhg (scL key b (l.take j)) (Q5p (scL key b (l.take j))):=fun j=> by
  induction j with
  |zero=> intro _;exact ⟨by simp [scL],by simp [scL,Q5p]⟩
  |succ j ih=>
   intro hj
   have ih':=ih (by omega)
   obtain ⟨x,y,z,hxy⟩:∃x y z,l.getD j (0,0,false)=(x,y,z):=⟨_,_,_,rfl⟩
   have hts:=Q1p Q12 l j (by omega)
   rw [show l.getD j Q12.d=l.getD j (0,0,false) from rfl,hxy] at hts
   cases z with
   |true=> rw [hts,Q4K _ _ _ _ rfl];exact ih'
   |false=>
    rw [hts,Q3S _ _ _ _ rfl,Q94]
    have hb:=Q3R h (by omega) hxy
    refine Qea ih' (fun z hz=> Q7S (Q8E h j) hz) ⟨hb.1,by dsimp only;omega⟩ (fun z hz=> ?_)
    obtain ⟨i,hi,e⟩:=Qa0 hz
    have hij:i < j:=by simp at hi;omega
    have:=Q5i h j (by omega) i hij
    rw [hxy] at this
    rw [show (l.take j).getD i (0,0,false)=l.getD i (0,0,false) by simp [List.getD_eq_getElem?_getD,List.getElem?_take,hij]] at e
    rw [←e];exact this
 have:=key' l.length (Kaq _)
 rw [List.take_of_length_le (Kaq _)] at this
 exact this
theorem Q7t (key b:Int) (o:Option Addr) (cap:Nat) (l:List Bk) (w:World) (hR:RdK w.heap.size w o l) (hlen:l.length≤1048576):
  Calls Tryz.prog 184 #[.int .i64 key,.int .i64 b,.slice o l.length cap] w fun e w'=> ∃v,e=.returned v∧Q9u w' w.heap.size v (Q0Z key b l)∧Below w.heap.size w w':=by
 have hkey:=fun w=> Q0S key w
 have hbuc:=fun w=> Q2f b w
 have hbo:=Q2x o cap l w hR hlen
 by_cases hk:Q1C key=true
 ·rw [hk] at hkey
  by_cases hbk:0≤b∧b < 8
  ·rw [show (decide (0≤b) && decide (b < 8))=true by simp [hbk]] at hbuc
   by_cases hl:Q0a l=true
   ·rw [hl] at hbo
    have HE:=Q02 (show Q0Z key b l=Q7r (Q5p (scL key b l)) by rw [Q0Z,if_pos ⟨hk,hbk,hl⟩])
    have hln:=Q3W hl
    go_enter Tryz.func184,Tryz.ntmps184
    go_wp2_with (first|(go_at_call 115;refine (hkey _).mono ?_;rintro e w1 ⟨rfl,rfl⟩)|(go_at_call 143;refine (hbuc _).mono ?_;rintro e w1 ⟨rfl,rfl⟩)|(go_at_call 175;refine hbo.mono ?_;rintro e w2 ⟨rfl,hb2⟩))
    refine (Q8Q key b o cap l w2 ((hR.kept hb2 (Kaq _)).le hb2.size) (by omega) hk hbk hl).mono ?_
    rintro e w3 ⟨k,v,lb,rfl,hbd,hhp,hok,hhd,hkge,hb3⟩
    have hlb:lb.length≤1000:=by
     have h1:=hhd.1
     have h2:(scL key b l).length≤l.length:=by unfold scL;rw [List.length_map];exact List.length_filter_le _ _
     omega
    have htwo:=Qag k v lb w3 hbd hhp hok hlb;clear hbo
    go_wp2_with fail
    refine htwo.mono ?_
    rintro e w4 ⟨v4,p,rfl,ht,ho4,hb4⟩
    have hp:=Qfd (Qfi hl) (fun z hz=> Q7S hl hz) hhd hhp ht
    have HO:=Q02 (Q04 (hp ▸ ho4) (Kdq hb2.size hkge));have HB:=Q02 ((hb2.trans (hb3.mono hb2.size)).trans (hb4.mono (Kdq hb2.size hkge)));clear ho4 hb2 hb3 hb4 hR ht hp htwo hbd hhp hok hhd
    go_wp2
    go_ret
    exact ⟨v4,rfl,by rw [HE.out];exact HO.out,HB.out⟩
   ·rw [Bool.eq_false_iff.2 hl] at hbo
    have HE:=Q02 (show Q0Z key b l=[] by rw [Q0Z,if_neg (fun q=> hl q.2.2)])
    go_enter Tryz.func184,Tryz.ntmps184
    go_wp2_with (first|(go_at_call 115;refine (hkey _).mono ?_;rintro e w1 ⟨rfl,rfl⟩)|(go_at_call 143;refine (hbuc _).mono ?_;rintro e w1 ⟨rfl,rfl⟩)|(go_at_call 175;refine hbo.mono ?_;rintro e w2 ⟨rfl,hb2⟩))
    go_ret
    exact ⟨_,rfl,by rw [HE.out];exact World.ownsRow_nil _ _ _ _,hb2⟩
  ·rw [show (decide (0≤b) && decide (b < 8))=false by simpa using hbk] at hbuc
   have HE:=Q02 (show Q0Z key b l=[] by rw [Q0Z,if_neg (fun q=> hbk q.2.1)])
   go_enter Tryz.func184,Tryz.ntmps184
   go_wp2_with (first|(go_at_call 115;refine (hkey _).mono ?_;rintro e w1 ⟨rfl,rfl⟩)|(go_at_call 143;refine (hbuc _).mono ?_;rintro e w1 ⟨rfl,rfl⟩))
   go_ret
   exact ⟨_,rfl,by rw [HE.out];exact World.ownsRow_nil _ _ _ _,Below.refl _ _⟩
 ·rw [Bool.eq_false_iff.2 hk] at hkey
  have HE:=Q02 (show Q0Z key b l=[] by rw [Q0Z,if_neg (fun q=> hk q.1)])
  go_enter Tryz.func184,Tryz.ntmps184
  go_wp2_with (first|(go_at_call 115;refine (hkey _).mono ?_;rintro e w1 ⟨rfl,rfl⟩))
  go_ret
  exact ⟨_,rfl,by rw [HE.out];exact World.ownsRow_nil _ _ _ _,Below.refl _ _⟩
theorem ownL.rds {α:Type} {L:Lay α} {e:TypeId} {w:World} {base n c:Nat} {o:Option Addr} {l:List α} (h:ownL L e w base (.slice o n c) l):RdL L w.heap.size w o l:=by
 obtain ⟨o',c',e',hr⟩:=h.open
 injection e' with e1 e2 e3
 rw [e1];exact hr
theorem Q2c {w:World} {b1 b2 s1 s2 n1 n2:Nat} {e1 e2:TypeId} {v1 v2:Value} {x1 x2:List Value} (h1:w.ownsRow b1 e1 s1 v1 n1 x1) (h2:w.ownsRow b2 e2 s2 v2 n2 x2) (he:e1≠e2):v1.ownBlock=none∨v1.ownBlock≠v2.ownBlock:=by
 rcases h1.2 with ⟨rfl,_⟩|⟨g,cap,cur,rfl,_,hg,_⟩
 ·exact .inl rfl
 ·right
  rcases h2.2 with ⟨rfl,_⟩|⟨g',cap',cur',rfl,_,hg',_⟩
  ·simp [Value.ownBlock]
  ·intro e
   simp [Value.ownBlock] at e
   subst e
   rw [hg] at hg'
   simp at hg'
   exact he hg'.2
theorem Qf7:(3:TypeId)≠47:=by decide
def hv (hs:List Hd) (i:Nat):Value:=.slice (hs.getD i (none,0,0)).1 (hs.getD i (none,0,0)).2.1 (hs.getD i (none,0,0)).2.2
structure Tab (R:Nat→List Int) (k:Nat) (w:World) (base:Nat) (hs:List Hd):Prop where
 len:hs.length=k
 row:∀i,i < k→Q9u w base (hv hs i) (R i)
 apart:∀i j,i < k→j < k→i≠j→(hv hs i).ownBlock=none∨(hv hs i).ownBlock≠(hv hs j).ownBlock
theorem Tab.nil (R:Nat→List Int) (w:World) (base:Nat):Tab R 0 w base []:=⟨rfl,fun i h=> absurd h (Nat.not_lt_zero _),fun i _ h=> absurd h (Nat.not_lt_zero _)⟩
theorem Tab.kept {R:Nat→List Int} {k:Nat} {w w':World} {base:Nat} {hs:List Hd} (h:Tab R k w base hs) (hb:Below w.heap.size w w'):Tab R k w' base hs:=
 ⟨h.len,fun i hi=> Q03 (h.row i hi) hb,h.apart⟩
theorem Tab.grown {R:Nat→List Int} {k:Nat} {w w':World} {base:Nat} {hs:List Hd} {r:Option Nat} (h:Tab R k w base hs) (hg:w.grownBy w' r) (hn:∀i,i < k→(hv hs i).ownBlock=none∨(hv hs i).ownBlock≠r):Tab R k w' base hs:=
 ⟨h.len,fun i hi=> (h.row i hi).kept hg (hn i hi),h.apart⟩
theorem Tab.other {R:Nat→List Int} {k:Nat} {w w':World} {base b2 s2 n2:Nat} {hs:List Hd} {e2:TypeId} {v2:Value} {x2:List Value} (h:Tab R k w base hs) (h2:w.ownsRow b2 e2 s2 v2 n2 x2) (he:3≠e2) (hg:w.grownBy w' v2.ownBlock):Tab R k w' base hs:=
 h.grown hg fun i hi=> Q2c (h.row i hi) h2 he
theorem Q5u {hs:List Hd} {x:Hd} {i:Nat} (h:i < hs.length):hv (hs++[x]) i=hv hs i:=by
 unfold hv;rw [List.getD_eq_getElem?_getD,List.getElem?_append_left h,←List.getD_eq_getElem?_getD]
theorem Qay {hs:List Hd} {x:Hd}:hv (hs++[x]) hs.length=.slice x.1 x.2.1 x.2.2:=by
 unfold hv;rw [List.getD_eq_getElem?_getD,List.getElem?_append_right (Kaq _),Nat.sub_self];rfl
theorem Tab.snoc {R:Nat→List Int} {k:Nat} {w:World} {base n0:Nat} {hs:List Hd} {o:Option Addr} {m c:Nat} (h:Tab R k w base hs) (hlt:∀i,i < k→∀b,(hv hs i).ownBlock=some b→b < n0) (hbn:base≤n0)
  (hr:Q9u w n0 (.slice o m c) (R k)):Tab R (k+1) w base (hs++[(o,m,c)]):=by
 have hl:=h.len
 have new:hv (hs++[(o,m,c)]) k=.slice o m c:=by rw [←hl];exact Qay
 refine ⟨by simp [hl],fun i hi=> ?_,fun i j hi hj hij=> ?_⟩
 ·rcases Nat.lt_succ_iff_lt_or_eq.1 hi with h'|h'
  ·rw [Q5u (by omega)];exact h.row i h'
  ·subst h';rw [new];exact Q04 hr hbn
 ·rcases Nat.lt_succ_iff_lt_or_eq.1 hi with h'|h'
  ·rw [Q5u (by omega)]
   rcases Nat.lt_succ_iff_lt_or_eq.1 hj with g'|g'
   ·rw [Q5u (by omega)];exact h.apart i j h' g' hij
   ·subst g';rw [new]
    cases hob:(hv hs i).ownBlock with
    |none=> exact .inl rfl
    |some b=>
     right
     intro e
     have h1:=hlt i h' b hob;have h2:=(hr.lt b e.symm).1
     omega
  ·subst h'
   rw [new]
   cases hob:(Value.slice o m c).ownBlock with
   |none=> exact .inl rfl
   |some b=>
    right
    rw [Q5u (by omega)]
    intro e
    have h1:=hlt j (by omega) b e.symm
    have h2:=(hr.lt b hob).1
    omega
theorem Tab.lt {R:Nat→List Int} {k:Nat} {w:World} {base:Nat} {hs:List Hd} (h:Tab R k w base hs):∀i,i < k→∀b,(hv hs i).ownBlock=some b→b < w.heap.size:=
 fun i hi b e=> ((h.row i hi).lt b e).2
def Q3a (R:Nat→List Int) (n:Nat):List (List Int):=(List.range n).map R
theorem Q1m (R:Nat→List Int) (n:Nat):(Q3a R n).length=n:=by simp [Q3a]
theorem Q27 (R:Nat→List Int) (n i:Nat) (h:i < n):(Q3a R n).getD i []=R i:=by simp [Q3a,h]
theorem Tab.rd {R:Nat→List Int} {n:Nat} {w:World} {base b2 m c:Nat} {hs:List Hd} {o:Option Addr} (h:Tab R n w base hs) (ho:ownL Q0C 47 w b2 (.slice o m c) hs):RdLL w.heap.size w o (Q3a R n):=by
 refine ⟨hs,by rw [h.len,Q1m],ownL.rds ho,fun i hi=> ?_⟩
 rw [Q1m] at hi
 rw [Q27 R n i hi]
 have hr:=h.row i hi;obtain ⟨o',c',e',_⟩:=ownL.open (L:=Q2e) hr
 unfold hv at e'
 injection e' with e1 e2 e3
 exact ⟨e2,ownL.rds (L:=Q2e) hr⟩
def OwnT (w:World) (base:Nat) (v:Value) (n:Nat) (R:Nat→List Int):Prop:=
 (v=.slice none 0 0∧n=0)∨∃g hs,v=.slice (some ⟨g,0,none⟩) n n∧ownL Q0C 47 w base v hs∧Tab R n w base hs
theorem OwnT.open {w:World} {base n:Nat} {v:Value} {R:Nat→List Int} (h:OwnT w base v n R):∃o c,v=.slice o n c∧RdLL w.heap.size w o (Q3a R n):=by
 rcases h with ⟨rfl,rfl⟩|⟨g,hs,rfl,ho,ht⟩
 ·exact ⟨none,0,rfl,[],rfl,.inl rfl,fun i hi=> by simp [Q3a] at hi⟩
 ·exact ⟨_,_,rfl,ht.rd ho⟩
def st (R:Nat→List Int) (k:Int):Nat→Int
 |0=> k
 |i+1=> st R k i+(R i).length
theorem Stp.cellP {lo hi:Nat} {w w':World} {p:Addr} {u:Value} (s:Stp lo hi w w') (h:w.cell? p=some u) (hk:p.block < lo∨hi≤p.block):w'.cell? p=some u:=by
 have hlt:p.block < w.heap.size:=by
  rcases Nat.lt_or_ge p.block w.heap.size with h'|h'
  ·exact h'
  ·simp [World.cell?,Array.getElem?_eq_none h'] at h
 have e:=s.block p.block hlt hk
 simp only [World.cell?,e] at h ⊢
 exact h
def RiV {α:Type} (L:Lay α) (lo hi:Nat) (w:World) (v:Value) (l:List α):Prop:=∃o c,v=.slice o l.length c∧RdLo L lo hi w o l
theorem RiV.step {α:Type} {L:Lay α} {a b lo hi:Nat} {w w':World} {v:Value} {l:List α} (h:RiV L a b w v l) (s:Stp lo hi w w') (hd:hi≤a∨b≤lo):RiV L a b w' v l:=by
 obtain ⟨o,c,e,r⟩:=h
 refine ⟨o,c,e, ?_⟩
 rcases r with r|⟨g,off,ho,h0,h1,r⟩
 ·exact .inl r
 ·refine .inr ⟨g,off,ho,h0,h1,fun i hi' j hj=> ?_⟩
  have h:=r i hi' j hj;have hl:(L.cs (l.getD i L.d)).length=L.k:=L.len _
  rw [List.getElem?_eq_getElem (by omega)] at h ⊢
  exact s.cellP h (by simp only;omega)
theorem RiV.mono {α:Type} {L:Lay α} {a b a' b':Nat} {w:World} {v:Value} {l:List α} (h:RiV L a b w v l) (h1:a'≤a) (h2:b≤b'):RiV L a' b' w v l:=by
 obtain ⟨o,c,e,r⟩:=h
 refine ⟨o,c,e, ?_⟩
 rcases r with r|⟨g,off,ho,h3,h4,r⟩
 ·exact .inl r
 ·exact .inr ⟨g,off,ho,by omega,by omega,r⟩
theorem RiV.open {α:Type} {L:Lay α} {a b:Nat} {w:World} {v:Value} {l:List α} (h:RiV L a b w v l):∃o c,v=.slice o l.length c∧RdL L b w o l:=by
 obtain ⟨o,c,e,r⟩:=h
 exact ⟨o,c,e,r.rd⟩
theorem InRow.ri {α:Type} {L:Lay α} {e:TypeId} {lo hi:Nat} {w:World} {v:Value} {l:List α} (h:InL L e lo hi w v l):RiV L lo hi w v l:=by
 obtain ⟨o,c,e1,r⟩:=InL.rd (L:=L) h
 refine ⟨o,c,e1, ?_⟩
 rcases r with r|⟨g,off,ho,h1,r⟩
 ·exact .inl r
 ·refine .inr ⟨g,off,ho,(h.1.lt g (by rw [e1,ho];rfl)).1,h1,r⟩
def RiRows {α:Type} (Q:Nat→Nat→World→Value→α→Prop) (d:α) (lo hi:Nat) (w:World) (v:Value) (xs:List α):Prop:=∃hs:List Hd,hs.length=xs.length∧RiV Q0C lo hi w v hs∧∀i,i < xs.length→Q lo hi w (hv hs i) (xs.getD i d)
structure Stps {α:Type} (Q:Nat→Nat→World→Value→α→Prop):Prop where
 go:∀{a b lo hi:Nat} {w w':World} {v:Value} {x:α},Q a b w v x→Stp lo hi w w'→(hi≤a∨b≤lo)→Q a b w' v x
structure Monos {α:Type} (Q:Nat→Nat→World→Value→α→Prop):Prop where
 go:∀{a b a' b':Nat} {w:World} {v:Value} {x:α},Q a b w v x→a'≤a→b≤b'→Q a' b' w v x
theorem RiRows.step {α:Type} {Q:Nat→Nat→World→Value→α→Prop} {d:α} (hQ:Stps Q):Stps (RiRows Q d):=⟨fun ⟨hs,h0,h1,h2⟩ s hd=> ⟨hs,h0,h1.step s hd,fun i hi=> hQ.go (h2 i hi) s hd⟩⟩
theorem RiRows.mono {α:Type} {Q:Nat→Nat→World→Value→α→Prop} {d:α} (hQ:Monos Q):Monos (RiRows Q d):=⟨fun ⟨hs,h0,h1,h2⟩ k1 k2=> ⟨hs,h0,h1.mono k1 k2,fun i hi=> hQ.go (h2 i hi) k1 k2⟩⟩
abbrev RiI:=RiV Q2e
abbrev RiT:=RiRows RiI []
abbrev RiR:=RiRows RiT []
theorem RiI.stp:Stps RiI:=⟨fun h s hd=> RiV.step h s hd⟩
theorem RiI.mon:Monos RiI:=⟨fun h h1 h2=> RiV.mono h h1 h2⟩
theorem RiT.stp:Stps RiT:=RiRows.step RiI.stp
theorem RiT.mon:Monos RiT:=RiRows.mono RiI.mon
theorem RiR.stp:Stps RiR:=RiRows.step RiT.stp
theorem RiR.mon:Monos RiR:=RiRows.mono RiT.mon
theorem RiT.rd {a b:Nat} {w:World} {v:Value} {ll:List (List Int)} (h:RiT a b w v ll):∃o c,v=.slice o ll.length c∧RdLL b w o ll:=by
 obtain ⟨hs,h0,h1,h2⟩:=h;obtain ⟨o,c,e,r⟩:=h1.open
 refine ⟨o,c,by rw [e,h0],hs,h0,r,fun i hi=> ?_⟩
 obtain ⟨o',c',e',r'⟩:=(h2 i hi).open
 unfold hv at e'
 injection e' with e1 e2 e3
 exact ⟨e2,by rw [e1];exact r'⟩
theorem RiR.at {a C:Nat} {w:World} {o:Option Addr} {n c:Nat} {lll:List (List (List Int))} (h:RiR a C w (.slice o n c) lll) (hC:C≤w.heap.size) (i:Nat) (hi:i < lll.length):
  ∃b off o' c',o=some ⟨b,off,none⟩∧b < w.heap.size∧w.cell? ⟨b,off+i,none⟩=some (.slice o' (lll.getD i []).length c')∧RdLL w.heap.size w o' (lll.getD i []):=by
 obtain ⟨hs,h0,h1,h2⟩:=h;obtain ⟨o1,c1,e,r⟩:=h1.open
 injection e with e1 e2 e3
 subst e1
 rcases r with r|⟨b,off,ho,hb,r⟩
 ·subst r;simp at h0;omega
 ·have hc:=RdL.head r i (by omega)
  obtain ⟨o',c',e',r'⟩:=RiT.rd (h2 i hi)
  unfold hv at e'
  rw [e'] at hc
  exact ⟨b,off,o',c',ho,Kbq hb hC,hc,r'.le hC⟩
structure Rw {α:Type} (Q:Nat→Nat→World→Value→α→Prop) (d:α) (xs:List α) (lo hi:Nat) (w:World) (hs:List Hd) (L H:Nat→Nat):Prop where
 len:hs.length=xs.length
 bd:∀i,i < xs.length→lo≤L i∧H i≤hi
 sep:∀i j,i < j→j < xs.length→H i≤L j
 row:∀i,i < xs.length→Q (L i) (H i) w (hv hs i) (xs.getD i d)
theorem Rw.nil {α:Type} (Q:Nat→Nat→World→Value→α→Prop) (d:α) (lo hi:Nat) (w:World) (L H:Nat→Nat):Rw Q d [] lo hi w [] L H:=⟨rfl,fun i h=> absurd h (Nat.not_lt_zero _),fun i j _ h=> absurd h (Nat.not_lt_zero _),fun i h=> absurd h (Nat.not_lt_zero _)⟩
theorem Rw.step {α:Type} {Q:Nat→Nat→World→Value→α→Prop} {d:α} {xs:List α} {a b lo hi:Nat} {w w':World} {hs:List Hd} {L H:Nat→Nat} (hQ:Stps Q) (h:Rw Q d xs a b w hs L H) (s:Stp lo hi w w') (hd:∀i,i < xs.length→hi≤L i∨H i≤lo):Rw Q d xs a b w' hs L H:=
 ⟨h.len,h.bd,h.sep,fun i hi'=> hQ.go (h.row i hi') s (hd i hi')⟩
theorem Rw.kept {α:Type} {Q:Nat→Nat→World→Value→α→Prop} {d:α} {xs:List α} {a b:Nat} {w w':World} {hs:List Hd} {L H:Nat→Nat} (hQ:Stps Q) (h:Rw Q d xs a b w hs L H) (hb:Below w.heap.size w w'):Rw Q d xs a b w' hs L H:=
 h.step hQ (Stp.of (lo:=0) (hi:=0) hb) (fun i _=> .inl (Kcq _))
theorem Rw.mono {α:Type} {Q:Nat→Nat→World→Value→α→Prop} {d:α} {xs:List α} {a b a' b':Nat} {w:World} {hs:List Hd} {L H:Nat→Nat} (h:Rw Q d xs a b w hs L H) (h1:a'≤a) (h2:b≤b'):Rw Q d xs a' b' w hs L H:=
 ⟨h.len,fun i hi=> ⟨Kdq h1 (h.bd i hi).1,Kdq (h.bd i hi).2 h2⟩,h.sep,h.row⟩
theorem Rw.snoc {α:Type} {Q:Nat→Nat→World→Value→α→Prop} {d:α} {xs:List α} {lo b l2 h2:Nat} {w:World} {hs:List Hd} {L H:Nat→Nat} {o:Option Addr} {m c:Nat} {x:α} (h:Rw Q d xs lo b w hs L H) (hb:b≤l2) (hlo:lo≤l2) (hl:l2≤h2) (q:Q l2 h2 w (.slice o m c) x):
  Rw Q d (xs++[x]) lo h2 w (hs++[(o,m,c)]) (fun i=> if i < xs.length then L i else l2) (fun i=> if i < xs.length then H i else h2):=by
 have hl':=h.len
 refine ⟨by simp [hl'],fun i hi=> ?_,fun i j hij hj=> ?_,fun i hi=> ?_⟩
 ·by_cases hi':i < xs.length
  ·have:=h.bd i hi';simp only [hi',if_true];omega
  ·simp only [hi',if_false];omega
 ·simp at hj
  have hi':i < xs.length:=by omega
  by_cases hj':j < xs.length
  ·simp only [hi',hj',if_true];exact h.sep i j hij hj'
  ·have:=h.bd i hi';simp only [hi',hj',if_true,if_false];omega
 ·by_cases hi':i < xs.length
  ·have e1:(xs++[x]).getD i d=xs.getD i d:=by rw [List.getD_eq_getElem?_getD,List.getElem?_append_left hi',←List.getD_eq_getElem?_getD]
   simp only [hi',if_true]
   rw [Q5u (by omega),e1];exact h.row i hi'
  ·have e0:i=xs.length:=by simp at hi;omega
   subst e0
   have e1:(xs++[x]).getD xs.length d=x:=by simp
   simp only [Nat.lt_irrefl,if_false]
   rw [e1,←hl',Qay];exact q
def QgQ (v:Value) (n:Nat) (L H:Nat→Nat):Prop:=∀i,i < n→∀b,v.ownBlock=some b→b < L i∨H i≤b
def InRows {α:Type} (Q:Nat→Nat→World→Value→α→Prop) (d:α) (T:TypeId) (lo hi:Nat) (w:World) (v:Value) (xs:List α):Prop:=∃hs L H,InL Q0C T lo hi w v hs∧Rw Q d xs lo hi w hs L H∧QgQ v xs.length L H
theorem InRows.step {α:Type} {Q:Nat→Nat→World→Value→α→Prop} {d:α} {T:TypeId} (hQ:Stps Q):Stps (InRows Q d T):=⟨fun ⟨hs,L,H,h0,h1,h2⟩ s hd=>
 ⟨hs,L,H,InRow.step h0 s hd,h1.step hQ s (fun i hi=> by have:=h1.bd i hi;omega),h2⟩⟩
theorem InRows.mono {α:Type} {Q:Nat→Nat→World→Value→α→Prop} {d:α} {T:TypeId}:Monos (InRows Q d T):=⟨fun ⟨hs,L,H,h0,h1,h2⟩ k1 k2=>
 ⟨hs,L,H,InRow.mono h0 k1 k2,h1.mono k1 k2,h2⟩⟩
theorem InRows.ri {α:Type} {Q Q':Nat→Nat→World→Value→α→Prop} {d:α} {T:TypeId} (hm:Monos Q') (hq:∀{lo hi:Nat} {w:World} {v:Value} {x:α},Q lo hi w v x→Q' lo hi w v x) {lo hi:Nat} {w:World} {v:Value} {xs:List α} (h:InRows Q d T lo hi w v xs):RiRows Q' d lo hi w v xs:=by
 obtain ⟨hs,L,H,h0,h1,h2⟩:=h
 exact ⟨hs,h1.len,InRow.ri h0,fun i hi=> hm.go (hq (h1.row i hi)) (h1.bd i hi).1 (h1.bd i hi).2⟩
abbrev InI:=InL Q2e 3
abbrev InT:=InRows InI [] 47
abbrev InR:=InRows InT [] 51
theorem InI.stp:Stps InI:=⟨fun h s hd=> InRow.step h s hd⟩
theorem InT.stp:Stps InT:=InRows.step InI.stp
theorem InR.stp:Stps InR:=InRows.step InT.stp
theorem InT.ri {lo hi:Nat} {w:World} {v:Value} {ll:List (List Int)} (h:InT lo hi w v ll):RiT lo hi w v ll:=InRows.ri RiI.mon (fun q=> InRow.ri q) h
theorem InR.ri {lo hi:Nat} {w:World} {v:Value} {ll:List (List (List Int))} (h:InR lo hi w v ll):RiR lo hi w v ll:=InRows.ri RiT.mon (fun q=> InT.ri q) h
def Q1l (R1 R2:List (List (List Int))):Bool:=decide (R1.length=R2.length) && (List.range R1.length).all (fun i=> Q1s (R1.getD i []) (R2.getD i [])==0)
theorem bC7 {C b j:Nat} {w w':World} {u:Value} (h:Below C w w') (hc:w.cell? ⟨b,j,none⟩=some u) (hz:b < C):w'.cell? ⟨b,j,none⟩=some u:=(h.cell (p:=⟨b,j,none⟩) hz).trans hc
theorem RiRows.atS {α:Type} {Q:Nat→Nat→World→Value→α→Prop} {d:α} {a C:Nat} {w:World} {o:Option Addr} {n c:Nat} {xs:List α} (h:RiRows Q d a C w (.slice o n c) xs) (hC:C≤w.heap.size) (i:Nat) (hi:i < xs.length):∃b off u,o=some ⟨b,off,none⟩∧b < C∧w.cell? ⟨b,off+i,none⟩=some u∧Q a C w u (xs.getD i d):=by
 obtain ⟨hs,h0,h1,h2⟩:=h;obtain ⟨o1,c1,e,r⟩:=h1.open
 injection e with e1 e2 e3
 subst e1
 rcases r with r|⟨b,off,ho,hb,r⟩
 ·subst r;simp at h0;omega
 ·exact ⟨b,off,hv hs i,ho,hb,RdL.head r i (by omega),h2 i hi⟩
theorem Q91 {R1 R2:List (List (List Int))} {i:Nat} (hi:i < R1.length) (h:Q1s (R1.getD i []) (R2.getD i [])≠0):Q1l R1 R2=false:=by
 unfold Q1l
 rw [Bool.and_eq_false_iff]
 right
 rw [List.all_eq_false]
 exact ⟨i,by simpa using hi,by simpa using h⟩
theorem Q5o {R1 R2:List (List (List Int))} (hl:R1.length=R2.length) (h:∀i,i < R1.length→Q1s (R1.getD i []) (R2.getD i [])=0):Q1l R1 R2=true:=by
 unfold Q1l
 rw [decide_eq_true hl,Bool.true_and,List.all_eq_true]
 intro i hi
 rw [h i (by simpa using hi)]
 rfl
theorem Q8k {R1 R2:List (List (List Int))} (hl:R1.length≠R2.length):Q1l R1 R2=false:=by
 unfold Q1l;rw [decide_eq_false hl];rfl
theorem RdK.cells3 {C:Nat} {w:World} {o:Option Addr} {l:List Bk} (h:RdK C w o l) (j:Nat) (hj:j < l.length):∃g off,o=some ⟨g,off,none⟩∧g < C∧w.cell? ⟨g,off+j * 3,none⟩=some (.int .i64 (l.getD j (0,0,false)).1)∧w.cell? ⟨g,off+j * 3+1,none⟩=some (.int .i64 (l.getD j (0,0,false)).2.1)∧w.cell? ⟨g,off+j * 3+2,none⟩=some (.bool (l.getD j (0,0,false)).2.2):=by
 rcases h with r|⟨b,off,ho,hb,r⟩
 ·subst r;exact absurd hj (Nat.not_lt_zero _)
 ·exact ⟨b,off,ho,hb,r j hj 0 (by decide),r j hj 1 (by decide),r j hj 2 (by decide)⟩
theorem Q7Q (l:List Bk) (k:Nat) (h:k < l.length):l.take (k+1)=l.take k++[l.getD k (0,0,false)]:=Q1p Q12 l k h
theorem Qap (o1 o2:Option Addr) (n1 n2 c1 c2:Nat) (l1 l2:List Bk) (w:World) (hn1:n1=l1.length) (hn2:n2=l2.length) (h1:RdK w.heap.size w o1 l1) (h2:RdK w.heap.size w o2 l2) (hl1:l1.length≤1048576) (hl2:l2.length≤1048576):
  Calls Tryz.prog 137 #[.slice o1 n1 c1,.slice o2 n2 c2] w fun e w'=> e=.returned (.bool (decide (l1=l2)))∧Below w.heap.size w w':=by
 have HN1:=Q02 hn1;have HN2:=Q02 hn2;have H1:=Q02 h1;have H2:=Q02 h2
 by_cases hlen:n1=n2
 ·subst hlen
  rw [←hn1] at hl1
  clear hn1 hn2 h1 h2 hl2
  go_enter Tryz.func137,Tryz.ntmps137
  go_wp2
  go_loopw [4,13] (fun rv i wr=> ∃k:Nat,k≤n1∧i=.int .i64 (k:Int)∧rv=.bool false∧Hid (l1.take k=l2.take k)∧Hid (Below w.heap.size w wr))
   (fun _ i _=> n1 - (intOf i).toNat)
  case atStart=> exact ⟨0,Kcq _,rfl,rfl,rfl,Below.refl _ _⟩
  case round=>
   rename World=> wr
   obtain ⟨k,hk,rfl,rfl,HT,HBr⟩:=hrel
   by_cases hlt:k < n1
   ·have hlt':(k:Int) < (n1:Int):=by omega
    obtain ⟨g1,f1,rfl,hg1,a0,a1,a2⟩:=RdK.cells3 H1.out k (by rw [←HN1.out];exact hlt)
    obtain ⟨g2,f2,rfl,hg2,b0,b1,b2⟩:=RdK.cells3 H2.out k (by rw [←HN2.out];exact hlt)
    have Ga0:=Grown.cell (bC7 HBr.out a0 hg1) (Kbq hg1 HBr.out.size);have Ga1:=Grown.cell (bC7 HBr.out a1 hg1) (Kbq hg1 HBr.out.size);have Ga2:=Grown.cell (bC7 HBr.out a2 hg1) (Kbq hg1 HBr.out.size);have Gb0:=Grown.cell (bC7 HBr.out b0 hg2) (Kbq hg2 HBr.out.size);have Gb1:=Grown.cell (bC7 HBr.out b1 hg2) (Kbq hg2 HBr.out.size);have Gb2:=Grown.cell (bC7 HBr.out b2 hg2) (Kbq hg2 HBr.out.size)
    have T1:=Q02 (Q7Q l1 k (by rw [←HN1.out];exact hlt))
    have T2:=Q02 (Q7Q l2 k (by rw [←HN2.out];exact hlt))
    have N12:Hid (l1=l2→l1.getD k (0,0,false)=l2.getD k (0,0,false)):=fun h=> by rw [h]
    clear a0 a1 a2 b0 b1 b2;generalize l1.getD k (0,0,false)=d at *;generalize l2.getD k (0,0,false)=e at *
    by_cases hde:d=e
    ·subst hde
     obtain ⟨d0,d1,d2⟩:=d
     dsimp only at Ga0 Ga1 Ga2 Gb0 Gb1 Gb2
     clear N12
     go_wp2
     (refine Q0v (by kernel_rfl) (by kernel_rfl) ?_;intro hne9;(repeat (go_big_quiet_step (fail)));(with_reducible refine wpQuiet_nil ?_);intro _ hw9;obtain ⟨pq,hw8⟩:=hw9;subst hw8)
     have HB9:=Q02 (HBr.out.trans (pq.b.mono HBr.out.size))
     go_wp2
     go_roundw
     case rel=> exact ⟨k+1,by omega,by go_num,rfl,(by unfold Hid;rw [T1.out,T2.out,HT.out]),HB9.out⟩
     case measure=> simp [intOf];omega
    ·have HX:Hid (l1≠l2):=fun h=> hde (N12.out h)
     obtain ⟨d0,d1,d2⟩:=d;obtain ⟨e0,e1,e2⟩:=e
     dsimp only at Ga0 Ga1 Ga2 Gb0 Gb1 Gb2
     have hne:¬(d0=e0∧d1=e1∧d2=e2):=fun h=> hde (by rw [h.1,h.2.1,h.2.2])
     clear hde N12 T1 T2
     by_cases q0:d0=e0
     ·subst q0
      by_cases q1:d1=e1
      ·subst q1
       have q2:¬d2=e2:=fun h=> hne ⟨rfl,rfl,h⟩
       clear hne
       cases d2 <;> cases e2 <;> first|exact absurd rfl q2|skip
       all_goals clear q2
       all_goals go_wp2
       all_goals (refine Q0v (by kernel_rfl) (by kernel_rfl) ?_;intro hne9;(repeat (go_big_quiet_step (fail)));(with_reducible refine wpQuiet_nil ?_);intro _ hw9;obtain ⟨pq,hw8⟩:=hw9;subst hw8)
       all_goals have HB9:=Q02 (HBr.out.trans (pq.b.mono HBr.out.size))
       all_goals go_wp2
       all_goals go_ret
       all_goals exact ⟨Q0c (decide_eq_false HX.out).symm,HB9.out⟩
      ·clear hne
       have q1':(d1==e1)=false:=by simpa using q1
       go_wp2
       (refine Q0v (by kernel_rfl) (by kernel_rfl) ?_;intro hne9;(repeat (go_big_quiet_step (fail)));(with_reducible refine wpQuiet_nil ?_);intro _ hw9;obtain ⟨pq,hw8⟩:=hw9;subst hw8)
       have HB9:=Q02 (HBr.out.trans (pq.b.mono HBr.out.size))
       go_wp2
       go_ret
       exact ⟨Q0c (decide_eq_false HX.out).symm,HB9.out⟩
     ·clear hne
      have q0':(d0==e0)=false:=by simpa using q0
      go_wp2
      (refine Q0v (by kernel_rfl) (by kernel_rfl) ?_;intro hne9;(repeat (go_big_quiet_step (fail)));(with_reducible refine wpQuiet_nil ?_);intro _ hw9;obtain ⟨pq,hw8⟩:=hw9;subst hw8)
      have HB9:=Q02 (HBr.out.trans (pq.b.mono HBr.out.size))
      go_wp2
      go_ret
      exact ⟨Q0c (decide_eq_false HX.out).symm,HB9.out⟩
   ·have e:k=n1:=by omega
    subst e
    have HE:Hid (l1=l2):=by
     have h:=HT.out
     rw [List.take_of_length_le (by rw [←HN1.out];exact Kaq _),List.take_of_length_le (by rw [←HN2.out];exact Kaq _)] at h
     exact h
    go_wp2
    go_ret
    exact ⟨Q0c (decide_eq_true HE.out).symm,HBr.out⟩
 ·have HE:Hid (l1≠l2):=fun h=> hlen (by rw [hn1,hn2,h])
  have hne:¬((n1:Int)=(n2:Int)):=by omega
  clear hn1 hn2 hlen
  go_enter Tryz.func137,Tryz.ntmps137
  go_wp2
  go_ret
  exact ⟨Q0c (decide_eq_false HE.out).symm,Below.refl _ _⟩
theorem Q8u (oa ob:Option Addr) (ca cb na nb:Nat) (aa bb:List (List Int)) (w:World) (hna:na=aa.length) (hnb:nb=bb.length) (hA:RdLL w.heap.size w oa aa) (hB:RdLL w.heap.size w ob bb) (la:aa.length≤1048576) (lb:bb.length≤1048576)
  (xa:∀i,i < aa.length→(aa.getD i []).length≤1048576) (xb:∀i,i < bb.length→(bb.getD i []).length≤1048576):
  Calls Tryz.prog 139 #[.slice oa na ca,.slice ob nb cb] w fun e w'=> e=.returned (.bool (Q1s aa bb==0))∧Below w.heap.size w w':=by
 have HM:=Q02 (Q8v oa ob ca cb aa bb w hA hB la lb xa xb)
 rw [←hna,←hnb] at HM
 clear hA hB xa xb hna hnb;generalize Q1s aa bb=q at *
 go_enter Tryz.func139,Tryz.ntmps139
 go_wp2_with fail
 refine HM.out.mono ?_
 rintro e v1 ⟨rfl,hb⟩
 have HB:=Q02 hb;clear hb HM
 go_wp2
 go_ret
 exact ⟨rfl,HB.out⟩
theorem Qcj (o1 o2:Option Addr) (n1 n2 c1 c2:Nat) (R1 R2:List (List (List Int))) (w:World) (hn1:n1=R1.length) (hn2:n2=R2.length) (h1:RiR 0 w.heap.size w (.slice o1 n1 c1) R1) (h2:RiR 0 w.heap.size w (.slice o2 n2 c2) R2) (l1:n1≤1048576) (x1:∀i,i < R1.length→(R1.getD i []).length≤1048576) (y1:∀i,i < R1.length→∀j,j < (R1.getD i []).length→((R1.getD i []).getD j []).length≤1048576) (x2:∀i,i < R2.length→(R2.getD i []).length≤1048576) (y2:∀i,i < R2.length→∀j,j < (R2.getD i []).length→((R2.getD i []).getD j []).length≤1048576):
  Calls Tryz.prog 138 #[.slice o1 n1 c1,.slice o2 n2 c2,.func (Fn.func 139) #[] #[]] w fun e w'=> e=.returned (.bool (Q1l R1 R2))∧Below w.heap.size w w':=by
 have eS:∀args w,(callFunc 139 args).run Tryz.prog w=.ok (.enter 139 args) w:=enters_of Tryz.func139 (by kernel_rfl) rfl
 have HN1:=Q02 hn1;have HN2:=Q02 hn2;have H1:=Q02 h1;have H2:=Q02 h2;have X1:=Q02 x1;have Y1:=Q02 y1;have X2:=Q02 x2;have Y2:=Q02 y2
 by_cases hlen:n1=n2
 ·subst hlen
  clear hn1 hn2 h1 h2 x1 y1 x2 y2
  go_enter Tryz.func138,Tryz.ntmps138
  go_wp2
  go_loopw [6,17] (fun rv i wr=> ∃k:Nat,k≤n1∧i=.int .i64 (k:Int)∧rv=.bool false∧Hid (∀q,q < k→Q1s (R1.getD q []) (R2.getD q [])=0)∧Hid (Below w.heap.size w wr))
   (fun _ i _=> n1 - (intOf i).toNat)
  case atStart=> exact ⟨0,Kcq _,rfl,rfl,fun q h=> absurd h (Nat.not_lt_zero _),Below.refl _ _⟩
  case round=>
   rename World=> wr
   obtain ⟨k,hk,rfl,rfl,HT,HBr⟩:=hrel
   by_cases hlt:k < n1
   ·have hlt':(k:Int) < (n1:Int):=by omega
    have hk1:k < R1.length:=by rw [←HN1.out];exact hlt
    have hk2:k < R2.length:=by rw [←HN2.out];exact hlt
    obtain ⟨g1,f1,u1,rfl,hg1,a1,t1⟩:=RiRows.atS H1.out (Kaq _) k hk1;obtain ⟨g2,f2,u2,rfl,hg2,a2,t2⟩:=RiRows.atS H2.out (Kaq _) k hk2;obtain ⟨o3,c3,rfl,r1⟩:=RiT.rd t1;obtain ⟨o4,c4,rfl,r2⟩:=RiT.rd t2;replace a1:=bC7 HBr.out a1 hg1;replace a2:=bC7 HBr.out a2 hg2;obtain ⟨m1,hm1⟩:∃n,(R1.getD k []).length=n:=⟨_,rfl⟩;obtain ⟨m2,hm2⟩:∃n,(R2.getD k []).length=n:=⟨_,rfl⟩
    rw [hm1] at a1
    rw [hm2] at a2
    have HSP:=Q02 (Q8u o3 o4 c3 c4 m1 m2 (R1.getD k []) (R2.getD k []) wr hm1.symm hm2.symm ((r1.kept HBr.out (Kaq _)).le HBr.out.size) ((r2.kept HBr.out (Kaq _)).le HBr.out.size) (X1.out k hk1) (X2.out k hk2) (Y1.out k hk1) (Y2.out k hk2))
    have HNO:=Q02 (fun h=> Q91 (R1:=R1) (R2:=R2) hk1 h)
    have HTK:=HT;clear t1 t2 r1 r2 hm1 hm2;obtain ⟨q,hq⟩:∃q,Q1s (R1.getD k []) (R2.getD k [])=q:=⟨_,rfl⟩
    rw [hq] at HSP HNO
    have HQ:=Q02 hq;clear hq
    by_cases h0:q=0
    ·subst h0
     go_wp2_with fail
     refine HSP.out.mono ?_
     rintro e v1 ⟨rfl,hb⟩
     have HB9:=Q02 (HBr.out.trans (hb.mono HBr.out.size))
     have HT9:Hid (∀q,q < k+1→Q1s (R1.getD q []) (R2.getD q [])=0):=fun q hq=> by
      rcases Nat.lt_succ_iff_lt_or_eq.1 hq with h|h
      ·exact HTK.out q h
      ·rw [h];exact HQ.out
     clear hb HSP a1 a2
     go_wp2
     go_roundw
     case rel=> exact ⟨k+1,by omega,by go_num,rfl,HT9.out,HB9.out⟩
     case measure=> simp [intOf];omega
    ·have HE:=Q02 (HNO.out h0)
     have hqb:(q==0)=false:=by simpa using h0
     rw [hqb] at HSP
     go_wp2_with fail
     refine HSP.out.mono ?_
     rintro e v1 ⟨rfl,hb⟩
     have HB9:=Q02 (HBr.out.trans (hb.mono HBr.out.size));clear hb HSP a1 a2
     go_wp2
     go_ret
     exact ⟨Q0c HE.out.symm,HB9.out⟩
   ·have e:k=n1:=by omega
    subst e
    have HE:Hid (Q1l R1 R2=true):=Q5o (by rw [←HN1.out,←HN2.out]) (fun i hi=> HT.out i (by rw [HN1.out];exact hi))
    go_wp2
    go_ret
    exact ⟨Q0c HE.out.symm,HBr.out⟩
 ·have HE:Hid (Q1l R1 R2=false):=Q8k (by rw [←hn1,←hn2];exact hlen)
  have hne:¬((n1:Int)=(n2:Int)):=by omega
  clear hn1 hn2 hlen h1 h2 x1 y1 x2 y2
  go_enter Tryz.func138,Tryz.ntmps138
  go_wp2
  go_ret
  exact ⟨Q0c HE.out.symm,Below.refl _ _⟩
def QcC (S:Nat→Nat):Nat→Nat
 |0=> 0
 |n+1=> QcC S n+S n
theorem Q4C (S:Nat→Nat) (m:Nat) (h:∀i,S i≤m):∀n,QcC S n≤m * n
 |0=> Kcq _
 |n+1=> by have:=Q4C S m h n;have:=h n;unfold QcC;rw [Nat.mul_succ];omega
def Qhe (ll:List (List Int)) (i:Nat):Nat:=(ll.getD i []).length
def szT (ll:List (List Int)):Nat:=QcC (Qhe ll) ll.length
def QaO (lll:List (List (List Int))) (i:Nat):Nat:=szT (lll.getD i [])
def szR (lll:List (List (List Int))):Nat:=QcC (QaO lll) lll.length
def QeK (key:Int) (l:List Bk):Nat:=if Q1C key=true∧Q0a l=true then 8 else 0
theorem Q7P {wr:World} {base g:Nat} {hs:List Hd} {k n:Nat} {o:Option Addr} {m c:Nat} (hk:k < n) (hl:hs.length=k) (h:wr.ownsRow base 47 1 (.slice (some ⟨g,0,none⟩) n n) n ((hs++List.replicate (n - k) Q0C.d).flatMap Q0C.cs)):
  (wr.setCell ⟨g,k,none⟩ (.slice o m c)).ownsRow base 47 1 (.slice (some ⟨g,0,none⟩) n n) n (((hs++[(o,m,c)])++List.replicate (n - (k+1)) Q0C.d).flatMap Q0C.cs):=by
 have h1:=(h.stored k (.slice o m c)).1
 rw [Q96 Q0C rfl (a:=(o,m,c)) rfl] at h1
 have e1:n - k=(n - (k+1))+1:=by omega
 rw [e1,List.replicate_succ,List.set_append_right _ _ (by omega),hl,Nat.sub_self,List.set_cons_zero] at h1
 rw [List.append_assoc]
 exact h1
theorem Q6X (key:Int) (o:Option Addr) (cap:Nat) (l:List Bk) (w:World) (hR:RdK w.heap.size w o l) (hlen:l.length≤1048576):
  Calls Tryz.prog 163 #[.int .i64 key,.slice o l.length cap] w fun e w'=> ∃v,e=.returned v∧OwnT w' w.heap.size v (QeK key l) (fun b=> Q0Z key b l)∧Below w.heap.size w w':=by
 have hkey:=fun w=> Q0S key w
 have hbo:=Q2x o cap l w hR hlen
 by_cases hk:Q1C key=true
 ·rw [hk] at hkey
  by_cases hl:Q0a l=true
  ·rw [hl] at hbo
   have HE:=Q02 (show QeK key l=8 by rw [QeK,if_pos ⟨hk,hl⟩])
   have HP:=Q02 (fun (b:Nat) W h=> Q7t key b o cap l W h hlen)
   obtain ⟨i0,hi,hz0,hz1,hz2⟩:=info_parts Q6m
   go_enter Tryz.func163,Tryz.ntmps163
   go_wp2_with (first|(go_at_call 115;refine (hkey _).mono ?_;rintro e w1 ⟨rfl,rfl⟩)|(go_at_call 175;refine hbo.mono ?_;rintro e w2 ⟨rfl,hb2⟩)|(at_make;refine wpList_make_full _ rfl _ _ 51 rfl w2.heap.size 47 i0 (.slice none 0 0) 1 Tryz.underlying51 hi hz0 hz1 _ _ _ _ 8 rfl rfl rfl rfl ?b2 ?b3 ?b4 ?_))
   case b2=> rw [hz2];omega
   case b3=> unfold maxLen;omega
   case b4=> simp
   intro w3 hown hgrow
   have hb3:Below w2.heap.size w2 w3:=(Below.refl _ _).grown hgrow (Kaq _) (fun k h=> by cases h)
   have hB3:Below w.heap.size w w3:=hb2.trans (hb3.mono hb2.size);have hs2:w.heap.size≤w2.heap.size:=hb2.size
   have ho3:w3.ownsRow w.heap.size 47 1 (.slice (some ⟨w2.heap.size,0,none⟩) 8 8) 8 ((([]:List Hd)++List.replicate (8 - 0) Q0C.d).flatMap Q0C.cs):=by
    rw [List.nil_append,Nat.sub_zero,←Q3q Q0C (.slice none 0 0) rfl,show Q0C.k=1 from rfl,Nat.mul_one];exact Q04 hown hs2
   clear hown hgrow hb3 hbo hb2
   go_wp2
   go_loopw [18] (fun iv wr=> ∃(k:Nat) (hs:List Hd),k≤8∧iv=.int .i64 k∧wr.ownsRow w.heap.size 47 1 (.slice (some ⟨w2.heap.size,0,none⟩) 8 8) 8 ((hs++List.replicate (8 - k) Q0C.d).flatMap Q0C.cs)∧Tab (fun b=> Q0Z key b l) k wr w.heap.size hs∧Below w.heap.size w wr)
    (fun iv _=> 8 - (intOf iv).toNat)
   case atStart=> exact ⟨0,[],Kcq _,rfl,ho3,Tab.nil _ _ _,hB3⟩
   case round=>
    obtain ⟨k,hs,hk8,rfl,hor,htr,hBr⟩:=hrel
    by_cases hlt:k < 8
    ·have hp:=HP.out k wr ((hR.kept hBr (Kaq _)).le hBr.size)
     have HO:=Q02 hor;have HT:=Q02 htr;have HB:=Q02 hBr
     have z1:(k:Int) < 8:=by omega
     have HR:=Q02 hR;clear hor htr hBr ho3 hB3 hR
     go_wp2_with fail
     refine hp.mono ?_
     rintro e w4 ⟨v4,rfl,hv4,hb4⟩
     obtain ⟨o4,c4,e4,_⟩:=hv4.open
     rw [e4] at hv4 ⊢
     have HO4:=Q02 (Q03 HO.out hb4)
     have hln:((hs++List.replicate (8 - k) Q0C.d).flatMap Q0C.cs).length=8:=by rw [Q0s,List.length_append,List.length_replicate,HT.out.len,show Q0C.k=1 from rfl];omega
     have hcl:=HO4.out.cellAt k (by omega)
     have hfr:=HO4.out.frozenAt k
     obtain ⟨u,hu⟩:∃u,w4.cell? ⟨w2.heap.size,k,none⟩=some u:=⟨_,hcl.trans (List.getElem?_eq_getElem (by omega))⟩
     have HO5:=Q02 (Q7P (o:=o4) (m:=(Q0Z key k l).length) (c:=c4) hlt HT.out.len HO4.out);have HT4:=(HT.out.kept hb4).snoc HT.out.lt HB.out.size hv4;have HT5:=Q02 (HT4.other HO4.out Qf7 (HO4.out.stored k (.slice o4 (Q0Z key k l).length c4)).2);have HB5:=Q02 ((HB.out.trans (hb4.mono HB.out.size)).setCell (p:=⟨w2.heap.size,k,none⟩) hs2 (.slice o4 (Q0Z key k l).length c4));clear hv4 hb4 hcl HT4 e4 hp hln;generalize (Q0Z key k l).length=q at *
     go_wp2
     go_roundw
     case rel=> exact ⟨k+1,_,by omega,by go_num,HO5.out,HT5.out,HB5.out⟩
     case measure=> simp [intOf];omega
    ·have e:k=8:=by omega
     subst e;have HO:=Q02 hor;have HT:=Q02 htr;have HB:=Q02 hBr;clear hor htr hBr ho3 hB3
     go_wp2
     go_ret
     refine ⟨_,rfl,.inr ⟨w2.heap.size,hs,by rw [HE.out];rfl, ?_,by rw [HE.out];exact HT.out⟩,HB.out⟩
     have h1:=HO.out
     rw [Nat.sub_self,List.replicate_zero,List.append_nil] at h1
     unfold ownL
     rw [HT.out.len]
     exact h1
  ·rw [Bool.eq_false_iff.2 hl] at hbo
   have HE:=Q02 (show QeK key l=0 by rw [QeK,if_neg (fun q=> hl q.2)])
   go_enter Tryz.func163,Tryz.ntmps163
   go_wp2_with (first|(go_at_call 115;refine (hkey _).mono ?_;rintro e w1 ⟨rfl,rfl⟩)|(go_at_call 175;refine hbo.mono ?_;rintro e w2 ⟨rfl,hb2⟩))
   go_ret
   exact ⟨_,rfl,.inl ⟨rfl,HE.out⟩,hb2⟩
 ·rw [Bool.eq_false_iff.2 hk] at hkey
  have HE:=Q02 (show QeK key l=0 by rw [QeK,if_neg (fun q=> hk q.1)])
  go_enter Tryz.func163,Tryz.ntmps163
  go_wp2_with (first|(go_at_call 115;refine (hkey _).mono ?_;rintro e w1 ⟨rfl,rfl⟩))
  go_ret
  exact ⟨_,rfl,.inl ⟨rfl,HE.out⟩,Below.refl _ _⟩
end Go.Proofs.YtpneolgdghbinaaGreat
