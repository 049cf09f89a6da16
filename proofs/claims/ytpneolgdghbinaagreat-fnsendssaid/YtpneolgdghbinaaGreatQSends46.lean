/- Several texts in one: RouteMath, LCarr, SCarr, SRouteS, SRouteI, SRouteOf, SStops. -/
import Derived.Test.YtpneolgdghbinaaGreatQSends45
import Derived.Test.YtpneolgdghbinaaGreatQSends34
namespace Go.Proofs.YtpneolgdghbinaaGreat
open Go.ChangeShapes Go.WideShapes Go.ChangeAt Go.RowKit Go.Joins
set_option linter.unusedVariables false
set_option linter.unusedSimpArgs false
set_option maxRecDepth 100000
set_option maxHeartbeats 40000000
def Q1n (ok:Bool) (h:Int) (c:List Int) (i:Nat):List (Int × Int):=(if ok=true then [(h,0)] else [])++((c.take i).filter (fun x=> !ok||x !=h)).map (fun x=> (x,0))
theorem Q7n (ok:Bool) (h:Int) (c:List Int):Q1n ok h c 0=if ok=true then [(h,0)] else []:=by simp [Q1n]
theorem Q7N {ok:Bool} {h:Int} {c:List Int} {i:Nat} (hi:i < c.length) (hx:(!ok||c.getD i 0 !=h)=true):Q1n ok h c (i+1)=Q1n ok h c i++[(c.getD i 0,0)]:=by
 unfold Q1n
 have e:c.getD i 0=c[i]:=by simp [hi]
 rw [e] at hx ⊢
 rw [List.take_succ_eq_append_getElem hi,List.filter_append,List.map_append,List.append_assoc]
 simp only [List.filter_cons,hx,if_true,List.filter_nil,List.map_cons,List.map_nil]
theorem Q9w {ok:Bool} {h:Int} {c:List Int} {i:Nat} (hi:i < c.length) (hx:(!ok||c.getD i 0 !=h)=false):Q1n ok h c (i+1)=Q1n ok h c i:=by
 unfold Q1n
 have e:c.getD i 0=c[i]:=by simp [hi]
 rw [e] at hx
 rw [List.take_succ_eq_append_getElem hi,List.filter_append,List.map_append]
 simp [hx]
theorem Q2u (ok:Bool) (h:Int) (c:List Int) (i:Nat):(Q1n ok h c i).length≤i+1:=by
 unfold Q1n
 rw [List.length_append,List.length_map]
 have h1:=List.length_filter_le (fun x=> !ok||x !=h) (c.take i)
 have h2:(c.take i).length≤i:=by rw [List.length_take];omega
 have h3:(if ok=true then [(h,(0:Int))] else []).length≤1:=by cases ok <;> simp
 omega
def Q3f (l:List (Int × Int)) (r:List Int) (i:Nat):List (Int × Int):=l++(r.take i).map (fun x=> (x,1))
theorem Q6N (l:List (Int × Int)) (r:List Int):Q3f l r 0=l:=by simp [Q3f]
theorem Q73 {l:List (Int × Int)} {r:List Int} {i:Nat} (hi:i < r.length):Q3f l r (i+1)=Q3f l r i++[(r.getD i 0,1)]:=by
 unfold Q3f
 have e:r.getD i 0=r[i]:=by simp [hi]
 rw [e,List.take_succ_eq_append_getElem hi,List.map_append,List.append_assoc]
 rfl
theorem Q5T (l:List (Int × Int)) (r:List Int) (i:Nat):(Q3f l r i).length≤l.length+i:=by
 unfold Q3f
 rw [List.length_append,List.length_map,List.length_take];omega
def Q65 (ok:Bool) (h:Int) (c:List Int) (op:Bool) (r:List Int):List (Int × Int):=if op=true then Q3f (Q1n ok h c c.length) r r.length else Q1n ok h c c.length
theorem Q4D {k a p:Int} (h:Q1C k=true) (hf:Q0f a p=true):∃q:Nat,Q24 k a p=(q:Int)∧q < 8:=by
 have h1:0≤Q24 k a p:=by unfold Q24;omega
 have h2:Q24 k a p < 8:=by unfold Q24;omega
 exact ⟨(Q24 k a p).toNat,by omega,by omega⟩
structure Ring (lr:List (List (List Int))):Prop where
 pos:1≤lr.length
 le:lr.length≤3
 ok:∀i,i < lr.length→Q1h (lr.getD i [])=true
theorem Ring.len {lr:List (List (List Int))} (h:Ring lr) (i:Nat) (hi:i < lr.length):(lr.getD i []).length=8:=(Q47 (h.ok i hi)).1
theorem Ring.two {lr:List (List (List Int))} (h:Ring lr) (i:Nat) (hi:i < lr.length) (b:Nat) (hb:b < 8):((lr.getD i []).getD b []).length≤2:=Q8y ((Q47 (h.ok i hi)).2 b hb)
theorem Ring.ids {lr:List (List (List Int))} (h:Ring lr) {b:Nat} (hb:b < 8):∀x∈Q2h lr b,0≤x∧x < 6:=fun x hx=> by
 unfold Q2h at hx
 rw [Q9b] at hx
 rcases hx with hx|⟨t,ht,hx⟩
 ·cases hx
 ·obtain ⟨i,hi,rfl⟩:=List.getElem_of_mem ht
  have e:lr.getD i []=lr[i]:=by simp [hi]
  have h1:=(Q47 (h.ok i hi)).2 b hb
  rw [e] at h1
  exact Qb7 h1 x hx
theorem Ring.six {lr:List (List (List Int))} (h:Ring lr) {b:Nat} (hb:b < 8):(Q2h lr b).length≤6:=
 Q82 6 _ (Q7y b lr List.nodup_nil) (h.ids hb)
theorem QgF {w:World} {x y:Int} {T:TypeId}:RdL Q4P (w.alloc (.cells #[.int .i64 x,.int .i64 y] T)).heap.size (w.alloc (.cells #[.int .i64 x,.int .i64 y] T)) (some ⟨w.heap.size,0,none⟩) [(x,y)]:=
 .inr ⟨w.heap.size,0,rfl,by simp,fun i hi j hj=> by
  have hi':i=0:=by simpa using hi
  subst hi'
  have hj':j=0∨j=1:=by have:j < 2:=hj;omega
  rcases hj' with rfl|rfl
  ·simp [go_sem,Q4P]
  ·simp [go_sem,Q4P]⟩
abbrev crr (a b f s:Int) (v g:Value) (p t:Int):Value:=.agg #[.int .i64 a,.int .i64 b,.int .i64 f,.int .i64 s,v,g,.int .i64 p,.int .i64 t]
def Q59 (f : Int) : Bool := bits .and .i64 f 3 == 1
def Q2b (op : Bool) : Int → List (Int × Int) → Bool
  | _, [] => true
  | h, p :: l => Q1K p.1 p.2 && !(p.2 == 1 && !op) && !(decide (p.2 < h)) && Q2b op p.2 l
def QcV (a b f s : Int) (n m : Nat) (pl st : Int) : Bool := Q0q a b f s n && decide (1 ≤ (m : Int)) && decide ((m : Int) ≤ 24) && decide (0 ≤ pl) && decide (pl < (m : Int)) && decide (0 ≤ st) && decide (st ≤ 100000)
def Q1F (a b f s : Int) (n : Nat) (g : List (Int × Int)) (pl st : Int) : Bool := QcV a b f s n g.length pl st && Q2b (Q59 f) 0 g
theorem Q74 {a b f s : Int} {n m : Nat} {pl st : Int} : QcV a b f s n m pl st = true ↔ (Q0q a b f s n = true ∧ 1 ≤ (m : Int) ∧ (m : Int) ≤ 24 ∧ 0 ≤ pl ∧ pl < (m : Int) ∧ 0 ≤ st ∧ st ≤ 100000 ∧ True) := by simp [QcV, and_assoc]
theorem Q1Y {a b f s : Int} {n : Nat} {g : List (Int × Int)} {pl st : Int} (h : ¬ (Q0q a b f s n = true ∧ 1 ≤ (g.length : Int) ∧ (g.length : Int) ≤ 24 ∧ 0 ≤ pl ∧ pl < (g.length : Int) ∧ 0 ≤ st ∧ st ≤ 100000 ∧ True)) : false = Q1F a b f s n g pl st := by
  have : QcV a b f s n g.length pl st = false := by rw [Bool.eq_false_iff]; exact fun q => h (Q74.1 q)
  simp [Q1F, this]
theorem Q4o {a b f s : Int} {n : Nat} {g : List (Int × Int)} {pl st : Int} (h : QcV a b f s n g.length pl st = true) : Q2b (Q59 f) 0 g = Q1F a b f s n g pl st := by simp [Q1F, h]
def boxC (k : Nat) (a b f s : Int) (v g : Value) (pl st : Int) (w : World) : Prop :=
  w.cell? ⟨k, 0, none⟩ = some (.int .i64 a) ∧ w.cell? ⟨k, 1, none⟩ = some (.int .i64 b) ∧ w.cell? ⟨k, 2, none⟩ = some (.int .i64 f) ∧ w.cell? ⟨k, 3, none⟩ = some (.int .i64 s) ∧ w.cell? ⟨k, 4, none⟩ = some v ∧
  w.cell? ⟨k, 5, none⟩ = some g ∧ w.cell? ⟨k, 6, none⟩ = some (.int .i64 pl) ∧ w.cell? ⟨k, 7, none⟩ = some (.int .i64 st)
theorem boxC.kept {k : Nat} {a b f s : Int} {v g : Value} {pl st : Int} {w w' : World} {B : Nat} (h : boxC k a b f s v g pl st w) (hb : Below B w w') (hk : k < B) : boxC k a b f s v g pl st w' :=
  ⟨(hb.cell (p := ⟨k, 0, none⟩) hk).trans h.1, (hb.cell (p := ⟨k, 1, none⟩) hk).trans h.2.1, (hb.cell (p := ⟨k, 2, none⟩) hk).trans h.2.2.1, (hb.cell (p := ⟨k, 3, none⟩) hk).trans h.2.2.2.1, (hb.cell (p := ⟨k, 4, none⟩) hk).trans h.2.2.2.2.1,
   (hb.cell (p := ⟨k, 5, none⟩) hk).trans h.2.2.2.2.2.1, (hb.cell (p := ⟨k, 6, none⟩) hk).trans h.2.2.2.2.2.2.1, (hb.cell (p := ⟨k, 7, none⟩) hk).trans h.2.2.2.2.2.2.2⟩
theorem QfG (w : World) (a b f s : Int) (v g : Value) (pl st : Int) (e : TypeId) : boxC w.heap.size a b f s v g pl st (w.alloc (.cells #[.int .i64 a, .int .i64 b, .int .i64 f, .int .i64 s, v, g, .int .i64 pl, .int .i64 st] e)) := by
  unfold boxC; simp
def Q1S (kp:Int) (lr:List (List (List Int))) (lt:List Sl) (a b f:Int):List (Int × Int):=Q65 (Q1o lt a b).2 (Q8m lt a b).v (Q2h lr (Q24 kp a b).toNat) (Q59 f) ((lr.getD 0 []).getD (Q24 kp a b).toNat [])
theorem QhD {k:Int} (h:Q1C k=true):0≤k∧k < 1000000:=by unfold Q1C at h;simpa using h
theorem Q6Z (S base:Nat) (fn id:Int) (v:Value) (l:List (Int × Int)) (w:World) (hS:w.heap[S]? =some (.cells #[v] 41 (0,0))) (ho:ownL Q4P 50 w base v l) (hl:l.length≤1000) (hb:base≤w.heap.size):
  Calls Tryz.prog 90 #[.int .i64 fn,.int .i64 id,.pointer (some ⟨S,0,none⟩)] w fun e w'=> e=.returned (.tuple #[])∧∃v',w'.heap[S]? =some (.cells #[v'] 41 (0,0))∧ownL Q4P 50 w' base v' (l++[(id,fn)])∧(∀B,B≤S→B≤base→Below B w w')∧(∀(l2:List Int) (v2:Value),ownL Q2e 3 w 0 v2 l2→ownL Q2e 3 w' 0 v2 l2):=by
 obtain ⟨oo,oc,e6,_⟩:=ownL.open (L:=Q4P) ho;subst e6
 have hSw:S < w.heap.size:=(Array.getElem?_eq_some_iff.1 hS).1
 have c0:w.cell? ⟨S,0,none⟩=some (.slice oo l.length oc):=Q00 hS 0 _ rfl;have HA:=Q02 (World.ownsRow.alloc ho (.cells #[.int .i64 id,.int .i64 fn] 50));have hal:Below w.heap.size w (w.alloc (.cells #[.int .i64 id,.int .i64 fn] 50)):=(Below.refl _ _).alloc (Kaq _) _;have c1:=bC hal c0 hSw;have HSA:=Q02 ((hal.block S hSw).trans hS);have HAL:=Q02 hal;clear hal hS ho
 go_enter Tryz.func90,Tryz.ntmps90
 go_wp2_with (first|(at_builtin;refine Q07 Qic rfl (.tmp 5) (.tmp 9) rfl base _ l rfl HA.out (some ⟨w.heap.size,0,none⟩) 1 _ [(id,fn)] 1 rfl rfl (by simp) QgF (by simp;omega) (by simp;omega) ?_))
 intro v5 w5 ho5 hg5 _
 obtain ⟨o5,k5,e5,_⟩:=ownL.open (L:=Q4P) ho5;obtain ⟨n5,hn5⟩:∃x,(l++[(id,fn)]).length=x:=⟨_,rfl⟩
 rw [hn5] at e5
 subst e5;clear hn5
 have hs5:w.heap.size < w5.heap.size:=by have:=hg5.size;simp at this;omega
 have X5:w5.heap[S]? =some (.cells #[.slice oo l.length oc] 41 (0,0)):=by
  refine (hg5.block S (by simp;omega) ?_).trans HSA.out
  intro e
  rcases Q1P HA.out HSA.out (by decide) with h|h
  ·rw [h] at e;cases e
  ·exact h e.symm
 have HFI:Hid ((w5.setCell ⟨S,0,none⟩ (.slice o5 n5 k5)).heap[S]? =some (.cells #[.slice o5 n5 k5] 41 (0,0))∧ownL Q4P 50 (w5.setCell ⟨S,0,none⟩ (.slice o5 n5 k5)) base (.slice o5 n5 k5) (l++[(id,fn)])∧(∀B,B≤S→B≤base→Below B w (w5.setCell ⟨S,0,none⟩ (.slice o5 n5 k5)))∧(∀(l2:List Int) (v2:Value),ownL Q2e 3 w 0 v2 l2→ownL Q2e 3 (w5.setCell ⟨S,0,none⟩ (.slice o5 n5 k5)) 0 v2 l2)):=by
  refine ⟨Q06 X5 0 _,World.ownsRow.kept ho5 (Q0D w5 S 0 (.slice o5 n5 k5)) (Q1P ho5 X5 (by decide)),fun B h1 h2=> ?_,fun l2 v2 h=> ?_⟩
  ·exact ((((Below.refl B w).alloc (by omega) _).grown hg5 (by simp;omega) (fun k h=> Kdq h2 (HA.out.lt k h).1)).setCell (p:=⟨S,0,none⟩) h1 _)
  ·have h1:=World.ownsRow.alloc h (.cells #[.int .i64 id,.int .i64 fn] 50)
   have h2:=World.ownsRow.kept h1 hg5 (Q2w h1 HA.out (by decide))
   exact World.ownsRow.kept h2 (Q0D w5 S 0 (.slice o5 n5 k5)) (Q1P h2 X5 (by decide))
 have c5:w5.cell? ⟨S,0,none⟩=some (.slice oo l.length oc):=Q00 X5 0 _ rfl;have f5:=Q01 X5 0;clear X5 hg5 ho5 HA HSA HAL
 go_wp2
 go_end0
 exact ⟨rfl,.slice o5 n5 k5,HFI.out.1,HFI.out.2.1,HFI.out.2.2.1,HFI.out.2.2.2⟩
theorem Qeb {m:Pm} {q:Nat} (h:Q21 m=true) (h8:q < 8):Qee m (q:Int)=Q2h m.ring q:=by
 unfold Qee
 rw [h,decide_eq_true (show (0:Int)≤q by omega),decide_eq_true (show (q:Int) < 8 by omega)]
 simp
theorem Ring.of {m:Pm} (h:Q21 m=true):Ring m.ring:=by
 obtain ⟨_,_,h3,h4,h5⟩:=Q1q h
 exact ⟨h3,h4,h5⟩
theorem Q99 {k a p:Int} (h:Q1C k=true) (hf:Q0f a p=true):Q0V k a p=Q24 k a p:=by
 unfold Q0V
 have h1:=QhD h
 rw [if_pos ⟨h1.1,h1.2,hf⟩]
theorem QcU {a b f s:Int} {n:Nat} (h:Q0q a b f s n=true):Q2k a b f s n=Q59 f:=by
 unfold Q2k
 rw [h];rfl
theorem Q9g (g nt xc base:Nat) (kq:Int) (yo:Option Addr) (yn yc:Nat) (sq kp:Int) (uo:Option Addr) (un uc:Nat) (vo:Option Addr) (vn vc:Nat) (lb:List Bk) (lr:List (List (List Int))) (lt:List Sl) (a b f s:Int) (po:Option Addr) (pn pc:Nat) (w:World)
  (hnt:nt=lt.length) (hn:0 < lt.length) (hl:lt.length≤1048576) (hpl:pn≤maxLen) (hpk:Q0q a b f s pn=true) (hfl:Q0f a b=true) (hv:(Q1o lt a b).2=true→0≤(Q8m lt a b).v) (hp:Q9S w.heap.size w (plv kp (.slice uo un uc) (.slice vo vn vc)) ⟨kp,lb,lr⟩) (hpb:Q21 ⟨kp,lb,lr⟩=true) (hfit:Q36 ⟨kp,lb,lr⟩) (ho:w.ownsRow base Q4l 5 (.slice (some ⟨g,0,none⟩) nt xc) nt (lt.flatMap Q0h.cs)):
  Calls Tryz.prog 39 #[QaU (.slice (some ⟨g,0,none⟩) nt xc) kq (.slice yo yn yc) sq kp (.slice uo un uc) (.slice vo vn vc),pkt a b f s (.slice po pn pc)] w fun e w'=> ∃v,e=.returned v∧ownL Q4P 50 w' w.heap.size v (Q1S kp lr lt a b f)∧Below w.heap.size w w':=by
 have hk:Q1C kp=true:=(Q1q hpb).1;have hr:Ring lr:=Ring.of hpb
 have HBK:=Q02 (fun W=> Q6g kp a b W)
 rw [Q99 hk hfl] at HBK
 obtain ⟨qn,hq,hq8⟩:=Q4D hk hfl
 have HRQ:=Q02 (show Q1S kp lr lt a b f=Q65 (Q1o lt a b).2 (Q8m lt a b).v (Q2h lr qn) (Q59 f) ((lr.getD 0 []).getD qn []) by unfold Q1S;rw [hq];rfl)
 rw [hq] at HBK
 have HHO:=Q02 (fun W (hb:Below w.heap.size w W)=> Qcx g 0 xc lt a b W hn hl hfl (Kbq (ho.lt g rfl).2 hb.size) (Q1M (Q03 ho hb) hnt))
 rw [←hnt] at HHO
 have HCA:=Q02 (fun W (hb:Below w.heap.size w W)=> Q5M (plv kp (.slice uo un uc) (.slice vo vn vc)) ⟨kp,lb,lr⟩ (qn:Int) W ((hp.kept hb (Kaq _)).le hb.size) hfit)
 rw [Qeb hpb hq8] at HCA
 have HOP:=Q02 (fun W=> Q4Q a b f s po pn pc W hpl)
 rw [QcU hpk] at HOP
 obtain ⟨vb9,vr9,e9,_,hG⟩:=hp
 simp only [Value.agg.injEq,Array.mk.injEq,List.cons.injEq,and_true,true_and] at e9
 obtain ⟨e91,e92⟩:=e9;subst e91 e92
 dsimp only at hG HCA
 obtain ⟨oz,cz,ez⟩:=RiR.len hG
 injection ez with ez1 ez2 ez3
 obtain ⟨b1,f1,u1,e1,hb1,hc1,hr1⟩:=RiRows.at hG (Kaq _) 0 hr.pos;subst e1;obtain ⟨o3,c3,e3,_⟩:=RiT.rd hr1;subst e3
 obtain ⟨b2,f2,u2,e2,hb2,hc2,hr2⟩:=RiRows.at hr1 (Kaq _) qn (by rw [hr.len 0 hr.pos];exact hq8)
 subst e2;obtain ⟨o9,c9,e9,hr9⟩:=RiV.open hr2;subst e9
 rw [hr.len 0 hr.pos,Nat.add_zero] at hc1
 have h2:=hr.two 0 hr.pos qn hq8;have h6:=hr.six hq8;have HID:=Q02 (hr.ids hq8)
 have hnr1:0 < vn:=by have:=hr.pos;omega
 have hq8':(qn:Int) < 8:=by omega
 clear hr1 hr2 hG hr hq hk hfl ho hpb hfit hpk hpl ez1 ez2 ez3;obtain ⟨row,hrow⟩:∃r,(lr.getD 0 []).getD qn []=r:=⟨_,rfl⟩
 rw [hrow] at hc2 hr9 h2 HRQ
 have HR9:=Q02 hr9;obtain ⟨m,hm⟩:∃r,row.length=r:=⟨_,rfl⟩
 rw [hm] at hc2 h2
 have HMM:=Q02 hm;have HHL:=Q02 (show QeE lt a b=if (Q1o lt a b).2=true then (Q8m lt a b).v else -1 from rfl);obtain ⟨h,hh⟩:∃q,(Q8m lt a b).v=q:=⟨_,rfl⟩;obtain ⟨ok,hok⟩:∃q,(Q1o lt a b).2=q:=⟨_,rfl⟩;obtain ⟨cs,hcs⟩:∃q,Q2h lr qn=q:=⟨_,rfl⟩;obtain ⟨op,hop⟩:∃q,Q59 f=q:=⟨_,rfl⟩;obtain ⟨hi,hhi⟩:∃q,QeE lt a b=q:=⟨_,rfl⟩
 rw [hhi] at HHO HHL
 rw [hh,hok] at HHL hv
 rw [hcs] at HCA h6 HID
 rw [hop] at HOP
 rw [hh,hok,hcs,hop] at HRQ
 have HCW1:=Q02 hc1;have HCW2:=Q02 hc2;clear hrow hm hh hok hcs hop hhi hr9 hnt hn hl hc1 hc2
 have hmf:∀(fn:Fn) (first cap:Array Value) (w:World),(Instr.makeFunc fn first cap).run Tryz.prog w=.ok (.func fn first cap) w:=fun _ _ _ _=> rfl
 obtain ⟨W0,hW0⟩:∃W,(((w.alloc (.cells #[.slice (some ⟨g,0,none⟩) nt xc,.int .i64 kq,.slice yo yn yc,.int .i64 sq,.int .i64 kp,.slice uo un uc,.slice (some ⟨b1,f1,none⟩) vn vc] 93)).alloc (.cells #[.int .i64 a,.int .i64 b,.int .i64 f,.int .i64 s,.slice po pn pc] 38)).alloc (.cells #[.slice none 0 0] 41))=W:=⟨_,rfl⟩
 have hb_W0:Below w.heap.size w W0:=by rw [←hW0];exact ((((Below.refl _ _).alloc (Kaq _) _).alloc (by simp <;> omega) _).alloc (by simp <;> omega) _)
 have HB:=Q02 hb_W0;clear hb_W0
 have zx:w.heap.size < W0.heap.size:=by rw [←hW0];simp <;> omega
 obtain ⟨x0,x1,x2,x3,x4,x5,x6⟩:=alc7v0v3 hW0
 have zp:w.heap.size+1 < W0.heap.size:=by rw [←hW0];simp <;> omega
 obtain ⟨p0,p1,p2,p3,p4⟩:=alc5v1v3 hW0
 have zsg:w.heap.size+1+1 < W0.heap.size:=by rw [←hW0];simp
 have sg0:W0.cell? ⟨w.heap.size+1+1,0,none⟩=some (.slice none 0 0):=by rw [←hW0];simp [go_sem]
 have HSG:Hid (W0.heap[w.heap.size+1+1]? =some (.cells #[.slice none 0 0] 41 (0,0))):=by rw [←hW0];exact Qfx w _ _ _ _
 have hW0s:w.heap.size+1+1+1=W0.heap.size:=by rw [←hW0];simp
 have hxw:w.heap.size < w.heap.size+1+1:=by omega
 have hpw:w.heap.size+1 < w.heap.size+1+1:=by omega
 have HB0:=HB;clear HB
 cases ok with
 |false=>
  have hhi:hi=(-1):=by rw [HHL.out];rfl
  rw [hhi] at HHO
  clear HHL hhi;have HQ0:=Q02 (Q7n false h cs);clear hv
  go_enter Tryz.func39,Tryz.ntmps39
  go_wp2_with fail
  refine (HHO.out W0 HB0.out).mono ?_
  rintro e v1 ⟨rfl,hb⟩
  have HS1:Hid (v1.heap[w.heap.size+1+1]? =some (.cells #[.slice none 0 0] 41 (0,0))):=(hb.block _ (by omega)).trans HSG.out
  have HB1:Hid (Below (w.heap.size+1+1) W0 v1):=hb.mono (by omega)
  have hs1:=hb.size;clear hb HHO;have x0r:=bC HB1.out x0 hxw;have x1r:=bC HB1.out x1 hxw;have x2r:=bC HB1.out x2 hxw;have x3r:=bC HB1.out x3 hxw;have x4r:=bC HB1.out x4 hxw;have x5r:=bC HB1.out x5 hxw;have x6r:=bC HB1.out x6 hxw;have p0r:=bC HB1.out p0 hpw;have p1r:=bC HB1.out p1 hpw;have p2r:=bC HB1.out p2 hpw;have p3r:=bC HB1.out p3 hpw;have p4r:=bC HB1.out p4 hpw;have HO1:=Q02 (World.ownsRow_nil v1 W0.heap.size 50 2);obtain ⟨v2,hv2⟩:∃W,v1=W:=⟨_,rfl⟩;subst hv2;have HS2:=HS1;have HO2:=HO1;have HB2:=HB1;clear HS1 HO1 HB1 hs1
  go_wp2_with fail
  refine (HBK.out v1).mono ?_
  rintro e v3 ⟨rfl,hb⟩
  clear x0r x1r x2r x3r x4r x5r x6r p0r p1r p2r p3r p4r
  have HS3:=Q02 ((hb.block _ (Array.getElem?_eq_some_iff.1 HS2.out).1).trans HS2.out)
  have HO3:=Q02 (Q03 HO2.out hb)
  have HB3:=Q02 (HB2.out.trans (hb.mono (by have:=(Array.getElem?_eq_some_iff.1 HS2.out).1;omega)))
  clear hb HS2 HO2 HB2 HBK;have x0r:=bC HB3.out x0 hxw;have x1r:=bC HB3.out x1 hxw;have x2r:=bC HB3.out x2 hxw;have x3r:=bC HB3.out x3 hxw;have x4r:=bC HB3.out x4 hxw;have x5r:=bC HB3.out x5 hxw;have x6r:=bC HB3.out x6 hxw;have p0r:=bC HB3.out p0 hpw;have p1r:=bC HB3.out p1 hpw;have p2r:=bC HB3.out p2 hpw;have p3r:=bC HB3.out p3 hpw;have p4r:=bC HB3.out p4 hpw
  go_wp2_with fail
  refine (HCA.out v3 (HB0.out.trans (HB3.out.mono (by omega)))).mono ?_
  rintro e v4 ⟨cv,rfl,hown,hb⟩
  clear x0r x1r x2r x3r x4r x5r x6r p0r p1r p2r p3r p4r
  have HS4:=Q02 ((hb.block _ (Array.getElem?_eq_some_iff.1 HS3.out).1).trans HS3.out)
  have HO4:=Q02 (Q03 HO3.out hb)
  have HB4:=Q02 (HB3.out.trans (hb.mono (by have:=(Array.getElem?_eq_some_iff.1 HS3.out).1;omega)))
  have HC4:Hid (ownL Q2e 3 v4 0 cv cs):=Q04 hown (Kcq _);clear hb hown HS3 HO3 HB3 HCA;obtain ⟨co,cc,e5,_⟩:=ownL.open (L:=Q2e) HC4.out;subst e5;obtain ⟨n,hnn⟩:∃n,cs.length=n:=⟨_,rfl⟩
  rw [hnn] at HC4 h6 ⊢
  have HNN:=Q02 hnn;clear hnn;have x0r:=bC HB4.out x0 hxw;have x1r:=bC HB4.out x1 hxw;have x2r:=bC HB4.out x2 hxw;have x3r:=bC HB4.out x3 hxw;have x4r:=bC HB4.out x4 hxw;have x5r:=bC HB4.out x5 hxw;have x6r:=bC HB4.out x6 hxw;have p0r:=bC HB4.out p0 hpw;have p1r:=bC HB4.out p1 hpw;have p2r:=bC HB4.out p2 hpw;have p3r:=bC HB4.out p3 hpw;have p4r:=bC HB4.out p4 hpw
  go_wp2
  go_loopw [35] (fun iv wr=> ∃i:Nat,i≤n∧iv=.int .i64 (i:Int)∧∃sv,Hid (wr.heap[w.heap.size+1+1]? =some (.cells #[sv] 41 (0,0)))∧Hid (ownL Q4P 50 wr W0.heap.size sv (Q1n false h cs i))∧Hid (ownL Q2e 3 wr 0 (.slice co n cc) cs)∧Hid (Below (w.heap.size+1+1) W0 wr))
   (fun iv _=> n - (intOf iv).toNat)
  case atStart=> exact ⟨0,Kcq _,rfl,_,HS4.out,by rw [HQ0.out];exact HO4.out,HC4.out,HB4.out⟩
  case round=>
   clear x0r x1r x2r x3r x4r x5r x6r p0r p1r p2r p3r p4r;clear HS4 HO4 HC4 HB4 HQ0
   rename World=> wr
   obtain ⟨i,hi',rfl,sv,HS,HO,HC,HBr⟩:=hrel;have x0r:=bC HBr.out x0 hxw;have x1r:=bC HBr.out x1 hxw;have x2r:=bC HBr.out x2 hxw;have x3r:=bC HBr.out x3 hxw;have x4r:=bC HBr.out x4 hxw;have x5r:=bC HBr.out x5 hxw;have x6r:=bC HBr.out x6 hxw;have p0r:=bC HBr.out p0 hpw;have p1r:=bC HBr.out p1 hpw;have p2r:=bC HBr.out p2 hpw;have p3r:=bC HBr.out p3 hpw;have p4r:=bC HBr.out p4 hpw;have hsr:=HBr.out.size
   by_cases hlt:i < n
   ·have hlt':(i:Int) < (n:Int):=by omega
    have hil:i < cs.length:=by rw [HNN.out];exact hlt
    obtain ⟨co',cc',e5,hrd⟩:=ownL.open (L:=Q2e) HC.out
    injection e5 with e51 e52 e53
    subst e51;clear e52 e53
    rcases hrd with hh|⟨b3,f3,rfl,hb3,hce⟩
    ·rw [hh] at hil;exact absurd hil (Nat.not_lt_zero _)
    have hc3:=RdL.int hce i hil;clear hce;have hln:=Q2u false h cs i
    have HSY:=Q02 (fun h9=> Q7N (ok:=false) (h:=h) (c:=cs) hil h9)
    have HSN:=Q02 (fun h9=> Q9w (ok:=false) (h:=h) (c:=cs) hil h9)
    obtain ⟨cur,hcu⟩:∃q,Q1n false h cs i=q:=⟨_,rfl⟩
    rw [hcu] at HO hln HSY HSN
    clear hcu
    have hid:=HID.out (cs.getD i 0) (by simp [hil])
    obtain ⟨y,hy⟩:∃y,cs.getD i 0=y:=⟨_,rfl⟩
    rw [hy] at hc3 HSY HSN hid
    clear hy
    have hx:¬y= -1:=by omega
    have HS9:=Q02 (HSY.out (by simp))
    have HAK:=Q02 (Q6Z (w.heap.size+1+1) W0.heap.size 0 y sv cur wr HS.out HO.out (by omega) hsr)
    go_wp2_with fail
    refine (HAK.out).mono ?_
    rintro e w7 ⟨rfl,sv7,hs7,ho7,hb7,hr7⟩
    clear HAK;have HS7:=Q02 hs7;have HO7:=Q02 ho7
    have HB7:=Q02 (HBr.out.trans (hb7 (w.heap.size+1+1) (Kaq _) (by omega)))
    have HC7:=Q02 (hr7 _ _ HC.out);clear hs7 ho7 hb7 hr7
    go_wp2
    go_roundw
    case rel=> exact ⟨i+1,by omega,by go_num,sv7,HS7.out,by rw [HS9.out];exact HO7.out,HC7.out,HB7.out⟩
    case measure=> simp [intOf];omega
   ·have e:i=n:=by omega
    subst e
    have HRR:Hid (Q1n false h cs cs.length=Q1n false h cs i):=by unfold Hid;rw [HNN.out]
    go_wp2_with fail
    refine (HOP.out wr).mono ?_
    rintro e w7 ⟨rfl,hb7⟩
    have HS7:=Q02 ((hb7.block _ (Array.getElem?_eq_some_iff.1 HS.out).1).trans HS.out)
    have HO7:=Q02 (Q03 HO.out hb7)
    have HB7:=Q02 (HBr.out.trans (hb7.mono (by omega)))
    clear x0r x1r x2r x3r x4r x5r x6r p0r p1r p2r p3r p4r;clear hb7 HO HC HBr hsr HOP HS;obtain ⟨bas,hbase⟩:∃x,Q1n false h cs i=x:=⟨_,rfl⟩
    rw [hbase] at HO7 HRR
    have hbl:=Q2u false h cs i
    rw [hbase] at hbl
    clear hbase
    cases op with
    |false=>
     have s7:w7.cell? ⟨w.heap.size+1+1,0,none⟩=some sv:=Q00 HS7.out 0 _ rfl;obtain ⟨oo,oc,e6,_⟩:=ownL.open (L:=Q4P) HO7.out;subst e6
     go_wp2
     go_ret
     exact ⟨_,rfl,by rw [HRQ.out];unfold Q65;rw [if_neg (by decide),HRR.out];exact Q04 HO7.out (by omega),HB0.out.trans (HB7.out.mono (by omega))⟩
    |true=>
     have x0r:=bC HB7.out x0 hxw;have x1r:=bC HB7.out x1 hxw;have x2r:=bC HB7.out x2 hxw;have x3r:=bC HB7.out x3 hxw;have x4r:=bC HB7.out x4 hxw;have x5r:=bC HB7.out x5 hxw;have x6r:=bC HB7.out x6 hxw;have p0r:=bC HB7.out p0 hpw;have p1r:=bC HB7.out p1 hpw;have p2r:=bC HB7.out p2 hpw;have p3r:=bC HB7.out p3 hpw;have p4r:=bC HB7.out p4 hpw
     have HBW:=Q02 (HB0.out.trans (HB7.out.mono (show w.heap.size≤w.heap.size+1+1 by omega)))
     have hc1':=bC HBW.out HCW1.out hb1;have hc2':=bC HBW.out HCW2.out hb2
     go_wp2
     go_loopw [57] (fun kv wq=> ∃k:Nat,k≤m∧kv=.int .i64 (k:Int)∧∃sv,Hid (wq.heap[w.heap.size+1+1]? =some (.cells #[sv] 41 (0,0)))∧Hid (ownL Q4P 50 wq W0.heap.size sv (Q3f bas row k))∧Hid (Below (w.heap.size+1+1) W0 wq))
      (fun kv _=> m - (intOf kv).toNat)
     case atStart=> exact ⟨0,Kcq _,rfl,_,HS7.out,by rw [Q6N];exact HO7.out,HB7.out⟩
     case round=>
      clear x0r x1r x2r x3r x4r x5r x6r p0r p1r p2r p3r p4r;clear hc1' hc2' HO7 HB7 HS7 HBW
      rename World=> wq
      obtain ⟨k,hk',rfl,sq2,HS,HO,HBq⟩:=hrel;have hsq:=HBq.out.size
      have HBW:=Q02 (HB0.out.trans (HBq.out.mono (show w.heap.size≤w.heap.size+1+1 by omega)))
      have x0r:=bC HBq.out x0 hxw;have x1r:=bC HBq.out x1 hxw;have x2r:=bC HBq.out x2 hxw;have x3r:=bC HBq.out x3 hxw;have x4r:=bC HBq.out x4 hxw;have x5r:=bC HBq.out x5 hxw;have x6r:=bC HBq.out x6 hxw;have p0r:=bC HBq.out p0 hpw;have p1r:=bC HBq.out p1 hpw;have p2r:=bC HBq.out p2 hpw;have p3r:=bC HBq.out p3 hpw;have p4r:=bC HBq.out p4 hpw
      by_cases hlk:k < m
      ·have hlk':(k:Int) < (m:Int):=by omega
       have hkr:k < row.length:=by rw [HMM.out];exact hlk
       rcases HR9.out with hh|⟨b3,f3,rfl,hb3,hce⟩
       ·rw [hh] at hkr;exact absurd hkr (Nat.not_lt_zero _)
       have hc3:=bC HBW.out (RdL.int hce k hkr) hb3;clear hce;have hln:=Q5T bas row k;have HS9:=Q02 (Q73 (l:=bas) hkr);obtain ⟨cur,hcu⟩:∃q,Q3f bas row k=q:=⟨_,rfl⟩
       rw [hcu] at HO hln HS9
       clear hcu;obtain ⟨y,hy⟩:∃y,row.getD k 0=y:=⟨_,rfl⟩
       rw [hy] at hc3 HS9
       clear hy
       have HAK:=Q02 (Q6Z (w.heap.size+1+1) W0.heap.size 1 y sq2 cur wq HS.out HO.out (by omega) hsq)
       go_wp2_with fail
       refine (HAK.out).mono ?_
       rintro e w8 ⟨rfl,sv8,hs8,ho8,hb8,_⟩
       clear HAK;have HS8:=Q02 hs8;have HO8:=Q02 ho8
       have HB8:=Q02 (HBq.out.trans (hb8 (w.heap.size+1+1) (Kaq _) (by omega)))
       clear hs8 ho8 hb8
       go_wp2
       go_roundw
       case rel=> exact ⟨k+1,by omega,by go_num,sv8,HS8.out,by rw [HS9.out];exact HO8.out,HB8.out⟩
       case measure=> simp [intOf];omega
      ·have e:k=m:=by omega
       subst e;have s7:wq.cell? ⟨w.heap.size+1+1,0,none⟩=some sq2:=Q00 HS.out 0 _ rfl;obtain ⟨oo,oc,e6,_⟩:=ownL.open (L:=Q4P) HO.out;subst e6
       go_wp2
       go_ret
       exact ⟨_,rfl,by rw [HRQ.out];unfold Q65;rw [if_pos rfl,HRR.out,HMM.out];exact Q04 HO.out (by omega),HBW.out⟩
 |true=>
  have hhi:hi=h:=by rw [HHL.out];rfl
  rw [hhi] at HHO
  clear HHL hhi;have HQ0:=Q02 (Q7n true h cs)
  have hp0:0≤h:=hv (by first|rfl|trivial)
  have hp1:¬(h= -1):=by omega
  clear hv
  go_enter Tryz.func39,Tryz.ntmps39
  go_wp2_with fail
  refine (HHO.out W0 HB0.out).mono ?_
  rintro e v1 ⟨rfl,hb⟩
  have HS1:Hid (v1.heap[w.heap.size+1+1]? =some (.cells #[.slice none 0 0] 41 (0,0))):=(hb.block _ (by omega)).trans HSG.out
  have HB1:Hid (Below (w.heap.size+1+1) W0 v1):=hb.mono (by omega)
  have hs1:=hb.size;clear hb HHO;have x0r:=bC HB1.out x0 hxw;have x1r:=bC HB1.out x1 hxw;have x2r:=bC HB1.out x2 hxw;have x3r:=bC HB1.out x3 hxw;have x4r:=bC HB1.out x4 hxw;have x5r:=bC HB1.out x5 hxw;have x6r:=bC HB1.out x6 hxw;have p0r:=bC HB1.out p0 hpw;have p1r:=bC HB1.out p1 hpw;have p2r:=bC HB1.out p2 hpw;have p3r:=bC HB1.out p3 hpw;have p4r:=bC HB1.out p4 hpw;have HO1:=Q02 (World.ownsRow_nil v1 W0.heap.size 50 2)
  have HAK:=Q02 (Q6Z (w.heap.size+1+1) W0.heap.size 0 h _ [] v1 HS1.out HO1.out (by simp) hs1)
  go_wp2_with fail
  refine (HAK.out).mono ?_
  rintro e v2 ⟨rfl,sv,hs2,ho2,hb2,_⟩
  clear x0r x1r x2r x3r x4r x5r x6r p0r p1r p2r p3r p4r;clear HAK;have HS2:=Q02 hs2;have HO2:=Q02 ho2
  have HB2:=Q02 (HB1.out.trans (hb2 (w.heap.size+1+1) (Kaq _) (by omega)))
  clear hs2 ho2 hb2 HS1 HO1 HB1 hs1;have x0r:=bC HB2.out x0 hxw;have x1r:=bC HB2.out x1 hxw;have x2r:=bC HB2.out x2 hxw;have x3r:=bC HB2.out x3 hxw;have x4r:=bC HB2.out x4 hxw;have x5r:=bC HB2.out x5 hxw;have x6r:=bC HB2.out x6 hxw;have p0r:=bC HB2.out p0 hpw;have p1r:=bC HB2.out p1 hpw;have p2r:=bC HB2.out p2 hpw;have p3r:=bC HB2.out p3 hpw;have p4r:=bC HB2.out p4 hpw
  go_wp2_with fail
  refine (HBK.out v2).mono ?_
  rintro e v3 ⟨rfl,hb⟩
  clear x0r x1r x2r x3r x4r x5r x6r p0r p1r p2r p3r p4r
  have HS3:=Q02 ((hb.block _ (Array.getElem?_eq_some_iff.1 HS2.out).1).trans HS2.out)
  have HO3:=Q02 (Q03 HO2.out hb)
  have HB3:=Q02 (HB2.out.trans (hb.mono (by have:=(Array.getElem?_eq_some_iff.1 HS2.out).1;omega)))
  clear hb HS2 HO2 HB2 HBK;have x0r:=bC HB3.out x0 hxw;have x1r:=bC HB3.out x1 hxw;have x2r:=bC HB3.out x2 hxw;have x3r:=bC HB3.out x3 hxw;have x4r:=bC HB3.out x4 hxw;have x5r:=bC HB3.out x5 hxw;have x6r:=bC HB3.out x6 hxw;have p0r:=bC HB3.out p0 hpw;have p1r:=bC HB3.out p1 hpw;have p2r:=bC HB3.out p2 hpw;have p3r:=bC HB3.out p3 hpw;have p4r:=bC HB3.out p4 hpw
  go_wp2_with fail
  refine (HCA.out v3 (HB0.out.trans (HB3.out.mono (by omega)))).mono ?_
  rintro e v4 ⟨cv,rfl,hown,hb⟩
  clear x0r x1r x2r x3r x4r x5r x6r p0r p1r p2r p3r p4r
  have HS4:=Q02 ((hb.block _ (Array.getElem?_eq_some_iff.1 HS3.out).1).trans HS3.out)
  have HO4:=Q02 (Q03 HO3.out hb)
  have HB4:=Q02 (HB3.out.trans (hb.mono (by have:=(Array.getElem?_eq_some_iff.1 HS3.out).1;omega)))
  have HC4:Hid (ownL Q2e 3 v4 0 cv cs):=Q04 hown (Kcq _);clear hb hown HS3 HO3 HB3 HCA;obtain ⟨co,cc,e5,_⟩:=ownL.open (L:=Q2e) HC4.out;subst e5;obtain ⟨n,hnn⟩:∃n,cs.length=n:=⟨_,rfl⟩
  rw [hnn] at HC4 h6 ⊢
  have HNN:=Q02 hnn;clear hnn;have x0r:=bC HB4.out x0 hxw;have x1r:=bC HB4.out x1 hxw;have x2r:=bC HB4.out x2 hxw;have x3r:=bC HB4.out x3 hxw;have x4r:=bC HB4.out x4 hxw;have x5r:=bC HB4.out x5 hxw;have x6r:=bC HB4.out x6 hxw;have p0r:=bC HB4.out p0 hpw;have p1r:=bC HB4.out p1 hpw;have p2r:=bC HB4.out p2 hpw;have p3r:=bC HB4.out p3 hpw;have p4r:=bC HB4.out p4 hpw
  go_wp2
  go_loopw [35] (fun iv wr=> ∃i:Nat,i≤n∧iv=.int .i64 (i:Int)∧∃sv,Hid (wr.heap[w.heap.size+1+1]? =some (.cells #[sv] 41 (0,0)))∧Hid (ownL Q4P 50 wr W0.heap.size sv (Q1n true h cs i))∧Hid (ownL Q2e 3 wr 0 (.slice co n cc) cs)∧Hid (Below (w.heap.size+1+1) W0 wr))
   (fun iv _=> n - (intOf iv).toNat)
  case atStart=> exact ⟨0,Kcq _,rfl,_,HS4.out,by rw [HQ0.out];exact HO4.out,HC4.out,HB4.out⟩
  case round=>
   clear x0r x1r x2r x3r x4r x5r x6r p0r p1r p2r p3r p4r;clear HS4 HO4 HC4 HB4 HQ0
   rename World=> wr
   obtain ⟨i,hi',rfl,sv,HS,HO,HC,HBr⟩:=hrel;have x0r:=bC HBr.out x0 hxw;have x1r:=bC HBr.out x1 hxw;have x2r:=bC HBr.out x2 hxw;have x3r:=bC HBr.out x3 hxw;have x4r:=bC HBr.out x4 hxw;have x5r:=bC HBr.out x5 hxw;have x6r:=bC HBr.out x6 hxw;have p0r:=bC HBr.out p0 hpw;have p1r:=bC HBr.out p1 hpw;have p2r:=bC HBr.out p2 hpw;have p3r:=bC HBr.out p3 hpw;have p4r:=bC HBr.out p4 hpw;have hsr:=HBr.out.size
   by_cases hlt:i < n
   ·have hlt':(i:Int) < (n:Int):=by omega
    have hil:i < cs.length:=by rw [HNN.out];exact hlt
    obtain ⟨co',cc',e5,hrd⟩:=ownL.open (L:=Q2e) HC.out
    injection e5 with e51 e52 e53
    subst e51;clear e52 e53
    rcases hrd with hh|⟨b3,f3,rfl,hb3,hce⟩
    ·rw [hh] at hil;exact absurd hil (Nat.not_lt_zero _)
    have hc3:=RdL.int hce i hil;clear hce;have hln:=Q2u true h cs i
    have HSY:=Q02 (fun h9=> Q7N (ok:=true) (h:=h) (c:=cs) hil h9)
    have HSN:=Q02 (fun h9=> Q9w (ok:=true) (h:=h) (c:=cs) hil h9)
    obtain ⟨cur,hcu⟩:∃q,Q1n true h cs i=q:=⟨_,rfl⟩
    rw [hcu] at HO hln HSY HSN
    clear hcu
    have hid:=HID.out (cs.getD i 0) (by simp [hil])
    obtain ⟨y,hy⟩:∃y,cs.getD i 0=y:=⟨_,rfl⟩
    rw [hy] at hc3 HSY HSN hid
    clear hy
    by_cases hx:y=h
    ·have HS9:=Q02 (HSN.out (by rw [hx];simp))
     subst hx
     go_wp2
     go_roundw
     case rel=> exact ⟨i+1,by omega,by go_num,sv,HS.out,by rw [HS9.out];exact HO.out,HC.out,HBr.out⟩
     case measure=> simp [intOf];omega
    ·have hx':¬h=y:=fun e=> hx e.symm
     have HS9:=Q02 (HSY.out (by simp [hx]))
     have HAK:=Q02 (Q6Z (w.heap.size+1+1) W0.heap.size 0 y sv cur wr HS.out HO.out (by omega) hsr)
     go_wp2_with fail
     refine (HAK.out).mono ?_
     rintro e w7 ⟨rfl,sv7,hs7,ho7,hb7,hr7⟩
     clear HAK;have HS7:=Q02 hs7;have HO7:=Q02 ho7
     have HB7:=Q02 (HBr.out.trans (hb7 (w.heap.size+1+1) (Kaq _) (by omega)))
     have HC7:=Q02 (hr7 _ _ HC.out);clear hs7 ho7 hb7 hr7
     go_wp2
     go_roundw
     case rel=> exact ⟨i+1,by omega,by go_num,sv7,HS7.out,by rw [HS9.out];exact HO7.out,HC7.out,HB7.out⟩
     case measure=> simp [intOf];omega
   ·have e:i=n:=by omega
    subst e
    have HRR:Hid (Q1n true h cs cs.length=Q1n true h cs i):=by unfold Hid;rw [HNN.out]
    go_wp2_with fail
    refine (HOP.out wr).mono ?_
    rintro e w7 ⟨rfl,hb7⟩
    have HS7:=Q02 ((hb7.block _ (Array.getElem?_eq_some_iff.1 HS.out).1).trans HS.out)
    have HO7:=Q02 (Q03 HO.out hb7)
    have HB7:=Q02 (HBr.out.trans (hb7.mono (by omega)))
    clear x0r x1r x2r x3r x4r x5r x6r p0r p1r p2r p3r p4r;clear hb7 HO HC HBr hsr HOP HS;obtain ⟨bas,hbase⟩:∃x,Q1n true h cs i=x:=⟨_,rfl⟩
    rw [hbase] at HO7 HRR
    have hbl:=Q2u true h cs i
    rw [hbase] at hbl
    clear hbase
    cases op with
    |false=>
     have s7:w7.cell? ⟨w.heap.size+1+1,0,none⟩=some sv:=Q00 HS7.out 0 _ rfl;obtain ⟨oo,oc,e6,_⟩:=ownL.open (L:=Q4P) HO7.out;subst e6
     go_wp2
     go_ret
     exact ⟨_,rfl,by rw [HRQ.out];unfold Q65;rw [if_neg (by decide),HRR.out];exact Q04 HO7.out (by omega),HB0.out.trans (HB7.out.mono (by omega))⟩
    |true=>
     have x0r:=bC HB7.out x0 hxw;have x1r:=bC HB7.out x1 hxw;have x2r:=bC HB7.out x2 hxw;have x3r:=bC HB7.out x3 hxw;have x4r:=bC HB7.out x4 hxw;have x5r:=bC HB7.out x5 hxw;have x6r:=bC HB7.out x6 hxw;have p0r:=bC HB7.out p0 hpw;have p1r:=bC HB7.out p1 hpw;have p2r:=bC HB7.out p2 hpw;have p3r:=bC HB7.out p3 hpw;have p4r:=bC HB7.out p4 hpw
     have HBW:=Q02 (HB0.out.trans (HB7.out.mono (show w.heap.size≤w.heap.size+1+1 by omega)))
     have hc1':=bC HBW.out HCW1.out hb1;have hc2':=bC HBW.out HCW2.out hb2
     go_wp2
     go_loopw [57] (fun kv wq=> ∃k:Nat,k≤m∧kv=.int .i64 (k:Int)∧∃sv,Hid (wq.heap[w.heap.size+1+1]? =some (.cells #[sv] 41 (0,0)))∧Hid (ownL Q4P 50 wq W0.heap.size sv (Q3f bas row k))∧Hid (Below (w.heap.size+1+1) W0 wq))
      (fun kv _=> m - (intOf kv).toNat)
     case atStart=> exact ⟨0,Kcq _,rfl,_,HS7.out,by rw [Q6N];exact HO7.out,HB7.out⟩
     case round=>
      clear x0r x1r x2r x3r x4r x5r x6r p0r p1r p2r p3r p4r;clear hc1' hc2' HO7 HB7 HS7 HBW
      rename World=> wq
      obtain ⟨k,hk',rfl,sq2,HS,HO,HBq⟩:=hrel;have hsq:=HBq.out.size
      have HBW:=Q02 (HB0.out.trans (HBq.out.mono (show w.heap.size≤w.heap.size+1+1 by omega)))
      have x0r:=bC HBq.out x0 hxw;have x1r:=bC HBq.out x1 hxw;have x2r:=bC HBq.out x2 hxw;have x3r:=bC HBq.out x3 hxw;have x4r:=bC HBq.out x4 hxw;have x5r:=bC HBq.out x5 hxw;have x6r:=bC HBq.out x6 hxw;have p0r:=bC HBq.out p0 hpw;have p1r:=bC HBq.out p1 hpw;have p2r:=bC HBq.out p2 hpw;have p3r:=bC HBq.out p3 hpw;have p4r:=bC HBq.out p4 hpw
      by_cases hlk:k < m
      ·have hlk':(k:Int) < (m:Int):=by omega
       have hkr:k < row.length:=by rw [HMM.out];exact hlk
       rcases HR9.out with hh|⟨b3,f3,rfl,hb3,hce⟩
       ·rw [hh] at hkr;exact absurd hkr (Nat.not_lt_zero _)
       have hc3:=bC HBW.out (RdL.int hce k hkr) hb3;clear hce;have hln:=Q5T bas row k;have HS9:=Q02 (Q73 (l:=bas) hkr);obtain ⟨cur,hcu⟩:∃q,Q3f bas row k=q:=⟨_,rfl⟩
       rw [hcu] at HO hln HS9
       clear hcu;obtain ⟨y,hy⟩:∃y,row.getD k 0=y:=⟨_,rfl⟩
       rw [hy] at hc3 HS9
       clear hy
       have HAK:=Q02 (Q6Z (w.heap.size+1+1) W0.heap.size 1 y sq2 cur wq HS.out HO.out (by omega) hsq)
       go_wp2_with fail
       refine (HAK.out).mono ?_
       rintro e w8 ⟨rfl,sv8,hs8,ho8,hb8,_⟩
       clear HAK;have HS8:=Q02 hs8;have HO8:=Q02 ho8
       have HB8:=Q02 (HBq.out.trans (hb8 (w.heap.size+1+1) (Kaq _) (by omega)))
       clear hs8 ho8 hb8
       go_wp2
       go_roundw
       case rel=> exact ⟨k+1,by omega,by go_num,sv8,HS8.out,by rw [HS9.out];exact HO8.out,HB8.out⟩
       case measure=> simp [intOf];omega
      ·have e:k=m:=by omega
       subst e;have s7:wq.cell? ⟨w.heap.size+1+1,0,none⟩=some sq2:=Q00 HS.out 0 _ rfl;obtain ⟨oo,oc,e6,_⟩:=ownL.open (L:=Q4P) HO.out;subst e6
       go_wp2
       go_ret
       exact ⟨_,rfl,by rw [HRQ.out];unfold Q65;rw [if_pos rfl,HRR.out,HMM.out];exact Q04 HO.out (by omega),HBW.out⟩
def Q3m (m:Bm) (a b f s:Int) (n:Nat):List (Int × Int):=if (Q2i m && Q0q a b f s n)=true then Q1S m.p.key m.p.ring m.t a b f else []
theorem Q2D {a b f s:Int} {n:Nat} (h:Q0q a b f s n=true):Q0f a b=true:=by
 unfold Q0q at h
 simp only [Bool.and_eq_true] at h
 simp_all
theorem Q79 (kj:Int) (o:Option Addr) (nj c:Nat) (sj kp:Int) (ob:Option Addr) (np cb:Nat) (oR:Option Addr) (nr cR:Nat) (ot:Option Addr) (nt ct:Nat) (lj:List Cd) (lb:List Bk) (lr:List (List (List Int))) (lt:List Sl) (a b f s:Int) (po:Option Addr) (pn pc:Nat) (w:World)
  (hnj:nj=lj.length) (hnt:nt=lt.length) (h1:RdC w.heap.size w o lj) (h1c:o=none→c=0) (h2:Q9S w.heap.size w (plv kp (.slice ob np cb) (.slice oR nr cR)) ⟨kp,lb,lr⟩) (h4:RdS w.heap.size w ot lt) (hf:Q9U ⟨⟨kj,lj,sj⟩,⟨kp,lb,lr⟩,lt⟩) (hpl:pn≤maxLen):
  Calls Tryz.prog 8 #[Q1d kj (.slice o nj c) sj kp (.slice ob np cb) (.slice oR nr cR) (.slice ot nt ct),pkt a b f s (.slice po pn pc)] w fun e w'=> ∃v,e=.returned v∧ownL Q4P 50 w' w.heap.size v (Q3m ⟨⟨kj,lj,sj⟩,⟨kp,lb,lr⟩,lt⟩ a b f s pn)∧Below w.heap.size w w':=by
 have HBF:=Q02 (fun W (hb:Below w.heap.size w W)=> Q4J kj o nj c sj kp ob np cb oR nr cR ot nt ct lj lb lr lt W hnj hnt ((h1.kept hb (Kaq _)).le hb.size) h1c ((h2.kept hb (Kaq _)).le hb.size) ((h4.kept hb (Kaq _)).le hb.size) hf)
 have f7:lt.length≤1048576:=hf.2.2
 have HBP:=Q02 (fun h=> Q4d (m:=⟨⟨kj,lj,sj⟩,⟨kp,lb,lr⟩,lt⟩) h)
 have HPB:=Q02 (fun h=> Q2O (m:=⟨⟨kj,lj,sj⟩,⟨kp,lb,lr⟩,lt⟩) h)
 have HSM:=Q02 (fun h=> Q2g (m:=⟨⟨kj,lj,sj⟩,⟨kp,lb,lr⟩,lt⟩) h)
 have HVL:=Q02 (fun h=> Qb9 (m:=⟨⟨kj,lj,sj⟩,⟨kp,lb,lr⟩,lt⟩) h a b)
 have HPF:=Q02 (fun h=> Q2D (a:=a) (b:=b) (f:=f) (s:=s) (n:=pn) h)
 have HM:=Q02 (show Q3m ⟨⟨kj,lj,sj⟩,⟨kp,lb,lr⟩,lt⟩ a b f s pn=if (Q2i ⟨⟨kj,lj,sj⟩,⟨kp,lb,lr⟩,lt⟩ && Q0q a b f s pn)=true then Q1S kp lr lt a b f else [] from rfl)
 dsimp only at HPB HSM HVL HBP
 have HFT:=Q02 (fun h=> Q4Z (m:=⟨⟨kj,lj,sj⟩,⟨kp,lb,lr⟩,lt⟩) h)
 clear h1 h2 h4 hnj hnt hf;obtain ⟨bb,hbb⟩:∃x,Q2i ⟨⟨kj,lj,sj⟩,⟨kp,lb,lr⟩,lt⟩=x:=⟨_,rfl⟩;obtain ⟨mr,hmr⟩:∃r,Q3m ⟨⟨kj,lj,sj⟩,⟨kp,lb,lr⟩,lt⟩ a b f s pn=r:=⟨_,rfl⟩
 rw [hmr]
 rw [hbb] at HFT HBF HBP HPB HSM HVL HM
 rw [hmr] at HM
 clear hbb hmr;obtain ⟨pb,hpb⟩:∃x,Q0q a b f s pn=x:=⟨_,rfl⟩;have HPO:=Q02 hpb
 rw [hpb] at HPF HM
 clear hpb;obtain ⟨W0,hW0⟩:∃W,((w.alloc (.cells #[.int .i64 kj,.slice o nj c,.int .i64 sj,.int .i64 kp,.slice ob np cb,.slice oR nr cR,.slice ot nt ct] 34)).alloc (.cells #[.int .i64 a,.int .i64 b,.int .i64 f,.int .i64 s,.slice po pn pc] 38))=W:=⟨_,rfl⟩
 have hb_W0:Below w.heap.size w W0:=by rw [←hW0];exact (((Below.refl _ _).alloc (Kaq _) _).alloc (by simp <;> omega) _)
 have HB:=Q02 hb_W0;clear hb_W0
 have zz:w.heap.size < W0.heap.size:=by rw [←hW0];simp <;> omega
 obtain ⟨z0,z1,z2,z3,z4,z5,z6⟩:=alc7v0v2 hW0
 have zp:w.heap.size+1 < W0.heap.size:=by rw [←hW0];simp
 obtain ⟨p0,p1,p2,p3,p4⟩:=alc5v1v2 hW0
 go_enter Tryz.func8,Tryz.ntmps8
 go_wp2_with fail
 refine (HBF.out W0 HB.out).mono ?_
 rintro e v1 ⟨xo,xn,xc,kq,yo,yn,yc,sq,kr,uo,un,uc,vo,vn,vc,rfl,hin,hb⟩
 have HIN:=Q02 hin;clear hin HBF;replace z0:=bC hb z0 zz;replace z1:=bC hb z1 zz;replace z2:=bC hb z2 zz;replace z3:=bC hb z3 zz;replace z4:=bC hb z4 zz;replace z5:=bC hb z5 zz;replace z6:=bC hb z6 zz;replace zz:=Kbq zz hb.size;replace p0:=bC hb p0 zp;replace p1:=bC hb p1 zp;replace p2:=bC hb p2 zp;replace p3:=bC hb p3 zp;replace p4:=bC hb p4 zp;replace zp:=Kbq zp hb.size;replace HB:=Q02 (HB.out.trans (hb.mono HB.out.size));clear hb
 cases bb with
 |false=>
  obtain ⟨W2,hW2⟩:∃W,(v1.alloc (.cells #[.slice xo xn xc,.int .i64 kq,.slice yo yn yc,.int .i64 sq,.int .i64 kr,.slice uo un uc,.slice vo vn vc] 93))=W:=⟨_,rfl⟩
  have hb_W2:Below v1.heap.size v1 W2:=by rw [←hW2];exact ((Below.refl _ _).alloc (Kaq _) _)
  replace z0:=bC hb_W2 z0 zz;replace z1:=bC hb_W2 z1 zz;replace z2:=bC hb_W2 z2 zz;replace z3:=bC hb_W2 z3 zz;replace z4:=bC hb_W2 z4 zz;replace z5:=bC hb_W2 z5 zz;replace z6:=bC hb_W2 z6 zz;replace zz:=Kbq zz hb_W2.size;replace p0:=bC hb_W2 p0 zp;replace p1:=bC hb_W2 p1 zp;replace p2:=bC hb_W2 p2 zp;replace p3:=bC hb_W2 p3 zp;replace p4:=bC hb_W2 p4 zp;replace zp:=Kbq zp hb_W2.size;replace HB:=Q02 (HB.out.trans (hb_W2.mono HB.out.size));clear hb_W2
  have zx:v1.heap.size < W2.heap.size:=by rw [←hW2];simp
  obtain ⟨x0,x1,x2,x3,x4,x5,x6⟩:=alc7v0v1 hW2;clear HIN
  go_wp2
  go_ret
  exact ⟨_,rfl,by rw [HM.out];exact World.ownsRow_nil _ _ _ _,HB.out⟩
 |true=>
  have hn:=HBP.out rfl;have hpo:=HPB.out rfl;have hsm:=HSM.out rfl;obtain ⟨g,a2,b2,k1,k2,k3,k4,e1,e2,e3,rfl,rfl,i1,i2,i3⟩:=Q6Y (HIN.out rfl) hn
  rw [←hsm] at i1 e3
  dsimp only at i1 e3
  subst e3;have HO:=Q02 i2;have HIP:=Q02 i1
  have hk9:a2≤v1.heap.size:=by omega
  clear i1 i2 i3 HIN e1 e2 hsm HSM;obtain ⟨W2,hW2⟩:∃W,(v1.alloc (.cells #[.slice (some ⟨g,0,none⟩) lt.length xc,.int .i64 kq,.slice yo yn yc,.int .i64 sq,.int .i64 kr,.slice uo un uc,.slice vo vn vc] 93))=W:=⟨_,rfl⟩
  have hb_W2:Below v1.heap.size v1 W2:=by rw [←hW2];exact ((Below.refl _ _).alloc (Kaq _) _)
  replace z0:=bC hb_W2 z0 zz;replace z1:=bC hb_W2 z1 zz;replace z2:=bC hb_W2 z2 zz;replace z3:=bC hb_W2 z3 zz;replace z4:=bC hb_W2 z4 zz;replace z5:=bC hb_W2 z5 zz;replace z6:=bC hb_W2 z6 zz;replace zz:=Kbq zz hb_W2.size;replace p0:=bC hb_W2 p0 zp;replace p1:=bC hb_W2 p1 zp;replace p2:=bC hb_W2 p2 zp;replace p3:=bC hb_W2 p3 zp;replace p4:=bC hb_W2 p4 zp;replace zp:=Kbq zp hb_W2.size;replace HO:=Q02 (Q03 HO.out hb_W2);replace HB:=Q02 (HB.out.trans (hb_W2.mono HB.out.size));clear hb_W2
  have zx:v1.heap.size < W2.heap.size:=by rw [←hW2];simp
  obtain ⟨x0,x1,x2,x3,x4,x5,x6⟩:=alc7v0v1 hW2
  replace HIP:=Q02 (HIP.out.step (Stp.of (lo:=0) (hi:=0) (show Below v1.heap.size v1 W2 by rw [←hW2];exact (Below.refl _ _).alloc (Kaq _) _)) (.inl (Kcq _)))
  have hk2:v1.heap.size < W2.heap.size:=zx;have hfl:=Q15 a b f s po pn pc W2 hpl
  rw [HPO.out] at hfl
  cases pb with
  |false=>
   go_wp2_with fail
   refine (hfl).mono ?_
   rintro e v2 ⟨rfl,hb⟩
   replace z0:=bC hb z0 zz;replace z1:=bC hb z1 zz;replace z2:=bC hb z2 zz;replace z3:=bC hb z3 zz;replace z4:=bC hb z4 zz;replace z5:=bC hb z5 zz;replace z6:=bC hb z6 zz;replace zz:=Kbq zz hb.size;replace p0:=bC hb p0 zp;replace p1:=bC hb p1 zp;replace p2:=bC hb p2 zp;replace p3:=bC hb p3 zp;replace p4:=bC hb p4 zp;replace zp:=Kbq zp hb.size;replace x0:=bC hb x0 zx;replace x1:=bC hb x1 zx;replace x2:=bC hb x2 zx;replace x3:=bC hb x3 zx;replace x4:=bC hb x4 zx;replace x5:=bC hb x5 zx;replace x6:=bC hb x6 zx;replace zx:=Kbq zx hb.size;replace HO:=Q02 (Q03 HO.out hb)
   replace HB:=Q02 (HB.out.trans (hb.mono HB.out.size));clear hb;clear hfl HO HIP
   go_wp2
   go_ret
   exact ⟨_,rfl,by rw [HM.out];exact World.ownsRow_nil _ _ _ _,HB.out⟩
  |true=>
   go_wp2_with fail
   refine (hfl).mono ?_
   rintro e v2 ⟨rfl,hb⟩
   replace HIP:=Q02 (HIP.out.step (Stp.of (lo:=0) (hi:=0) hb) (.inl (Kcq _)));have hk3:=hb.size;replace z0:=bC hb z0 zz;replace z1:=bC hb z1 zz;replace z2:=bC hb z2 zz;replace z3:=bC hb z3 zz;replace z4:=bC hb z4 zz;replace z5:=bC hb z5 zz;replace z6:=bC hb z6 zz;replace zz:=Kbq zz hb.size;replace p0:=bC hb p0 zp;replace p1:=bC hb p1 zp;replace p2:=bC hb p2 zp;replace p3:=bC hb p3 zp;replace p4:=bC hb p4 zp;replace zp:=Kbq zp hb.size;replace x0:=bC hb x0 zx;replace x1:=bC hb x1 zx;replace x2:=bC hb x2 zx;replace x3:=bC hb x3 zx;replace x4:=bC hb x4 zx;replace x5:=bC hb x5 zx
   replace x6:=bC hb x6 zx;replace zx:=Kbq zx hb.size;replace HO:=Q02 (Q03 HO.out hb);replace HB:=Q02 (HB.out.trans (hb.mono HB.out.size));clear hb;clear hfl
   have HG:=Q02 (Q9g g lt.length xc a2 kq yo yn yc sq kr uo un uc vo vn vc lb lr lt a b f s po pn pc v2 rfl hn f7 hpl HPO.out (HPF.out (by first|rfl|trivial)) (HVL.out (by first|rfl|trivial)) (HIP.out.rd.le (by omega)) hpo (HFT.out (by first|rfl|trivial)) HO.out)
   clear HIP HPO HPF HVL HFT hpo HBP HPB
   go_wp2_with fail
   refine (HG.out).mono ?_
   rintro e v3 ⟨vv,rfl,hown,hb⟩
   have HQ:Hid (ownL Q4P 50 v3 w.heap.size vv (Q1S kr lr lt a b f)):=Q04 hown HB.out.size;clear hown;replace z0:=bC hb z0 zz;replace z1:=bC hb z1 zz;replace z2:=bC hb z2 zz;replace z3:=bC hb z3 zz;replace z4:=bC hb z4 zz;replace z5:=bC hb z5 zz;replace z6:=bC hb z6 zz;replace zz:=Kbq zz hb.size;replace p0:=bC hb p0 zp;replace p1:=bC hb p1 zp;replace p2:=bC hb p2 zp;replace p3:=bC hb p3 zp;replace p4:=bC hb p4 zp;replace zp:=Kbq zp hb.size;replace x0:=bC hb x0 zx;replace x1:=bC hb x1 zx;replace x2:=bC hb x2 zx;replace x3:=bC hb x3 zx;replace x4:=bC hb x4 zx;replace x5:=bC hb x5 zx
   replace x6:=bC hb x6 zx;replace zx:=Kbq zx hb.size;replace HO:=Q02 (Q03 HO.out hb);replace HB:=Q02 (HB.out.trans (hb.mono HB.out.size));clear hb;clear HG HO;obtain ⟨oo,oc,e6,_⟩:=ownL.open (L:=Q4P) HQ.out;subst e6
   go_wp2
   go_ret
   exact ⟨_,rfl,by rw [HM.out];exact HQ.out,HB.out⟩
end Go.Proofs.YtpneolgdghbinaaGreat
namespace Go.Proofs.YtpneolgdghbinaaGreat
open Go.ChangeShapes Go.WideShapes Go.ChangeAt Go.RowKit Go.Joins Go.Shelf
set_option linter.unusedVariables false
set_option linter.unusedSimpArgs false
set_option maxRecDepth 100000
set_option maxHeartbeats 40000000
attribute [local go_sem] Oper.semAt_some
abbrev Qaz:=(Int × Int) × Bool
def Q2F (g:List (Int × Int)) (pl:Int) (j:Nat):Qaz:=(g[j]?.getD (0,0),decide ((j:Int)=pl))
def upto {α:Type} (f:Nat→α) (k:Nat):List α:=(List.range k).map f
theorem Q51 {α:Type} (f:Nat→α) (k:Nat):upto f (k+1)=upto f k++[f k]:=by simp [upto,List.range_succ]
theorem QaP {α:Type} (f:Nat→α) (k:Nat):(upto f k).length=k:=by simp [upto]
theorem QcS (g:List (Int × Int)) (pl:Int) (k:Nat):Q2F g pl k=(g[k]?.getD (0,0),(k:Int)==pl):=by
 unfold Q2F;congr 1
theorem Qcv (w:World) (o:Obj) {b off:Nat} {u:Value} (h:w.cell? ⟨b,off,none⟩=some u) (hb:b < w.heap.size):(w.alloc o).cell? ⟨b,off,none⟩=some u:=
 ((Below.alloc (Below.refl _ _) (Kaq _) o).cell (p:=⟨b,off,none⟩) hb).trans h
def KpB (n₀ Bs:Nat) (W W':World):Prop:=Below n₀ W W'∧W'.heap[Bs]? =W.heap[Bs]?
theorem KpB.trans {n₀ Bs:Nat} {A B C:World} (h:KpB n₀ Bs A B) (k:KpB n₀ Bs B C):KpB n₀ Bs A C:=⟨h.1.trans k.1,k.2.trans h.2⟩
theorem Q8j {W W':World} {B o:Nat} (h:W'.heap[B]? =W.heap[B]?):W'.cell? ⟨B,o,none⟩=W.cell? ⟨B,o,none⟩:=by simp [World.cell?,h]
theorem QcT (F:Fence) (n:Nat) (h:F.fn 148) (hro:F.round=none) (hn:1≤n) (l Bs n₀ b off cap:Nat) (g:List (Int × Int)) (a1 a2 a3 a4 pl st:Int) (v5:Value) (hreach:g.length≤1048576) (hb:b < n₀) (J Jx:List Qaz→World→Prop)
  (hY:∀pre x W,J pre W→pre.length < g.length→YieldAt F (n - 1) Tryz.prog l #[seg x.1.1 x.1.2,.bool x.2] W fun e W'=>
   (e=.returned (.bool true)∧J (pre++[x]) W'∧KpB n₀ Bs W W')∨(e=.returned (.bool false)∧Jx (pre++[x]) W'))
  (W:World) (hc5:W.cell? ⟨Bs,5,none⟩=some (.slice (some ⟨b,off,none⟩) g.length cap)) (hc6:W.cell? ⟨Bs,6,none⟩=some (.int .i64 pl))
  (hc:∀j,j < g.length→W.cell? ⟨b,off+j * 2,none⟩=some (.int .i64 (g[j]?.getD (0,0)).1)∧W.cell? ⟨b,off+j * 2+1,none⟩=some (.int .i64 (g[j]?.getD (0,0)).2)) (hJA:∀pre W o,J pre W→J pre (W.alloc o)) (hn0:n₀≤W.heap.size) (hBs0:Bs < W.heap.size) (h0:J [] W):
  CallsIn F n Tryz.prog 148 #[.func (.yield l) #[] #[],.pointer (some ⟨Bs,0,none⟩)] W fun e W'=> (∃v,e=.returned v)∧
   ((∃ys,ys=upto (Q2F g pl) g.length∧J ys W')∨(∃pre,(∃k,k≤g.length∧pre=upto (Q2F g pl) k)∧Jx pre W')):=by
 refine callsIn_of_wp Tryz.func148 rfl h ?_ hro
 simp only [Tryz.ntmps148,List.size_toArray,List.length_cons,List.length_nil,Nat.reduceAdd,Nat.reduceSub,Array.replicate_succ,Array.replicate_zero,List.push_toArray,List.append_toArray,List.nil_append,List.cons_append]
 gi_wp2
 gi_loopw [8] (fun i wr=> ∃k:Nat,k≤g.length∧i=.int .i64 k∧J (upto (Q2F g pl) k) wr∧KpB n₀ Bs W wr∧W.heap.size≤wr.heap.size)
  (fun i _=> g.length - (intOf i).toNat)
 case atStart=> exact ⟨0,Kcq _,rfl,h0,⟨Below.refl _ _,rfl⟩,Kaq _⟩
 case round=>
  obtain ⟨k,hk,rfl,hJs,⟨hnx,hbx⟩,hsz⟩:=hrel
  by_cases hlt:k < g.length
  ·have hc6r:=(Q8j hbx).trans hc6
   have hcx0:=(hnx.cell (p:=⟨b,off+k * 2,none⟩) hb).trans (hc k hlt).1;have hcx1:=(hnx.cell (p:=⟨b,off+k * 2+1,none⟩) hb).trans (hc k hlt).2;have hkx:=QcS g pl k;generalize g[k]?.getD (0,0)=xy at *;obtain ⟨x,y⟩:=xy
   dsimp only at hcx0 hcx1 hkx
   have hnr:n₀≤wr.heap.size:=Kdq hn0 hsz;have hc6a:=Qcv wr (Obj.cells #[Value.int IntKind.i64 x,Value.int IntKind.i64 y] 50) hc6r (Kbq hBs0 hsz)
   obtain ⟨fn,tmps,assign,body,hy,hR⟩:=hY _ (Q2F g pl k) (wr.alloc (Obj.cells #[Value.int IntKind.i64 x,Value.int IntKind.i64 y] 50)) (hJA _ _ _ hJs) (by rw [QaP];exact hlt)
   rw [hkx] at hy hR
   dsimp only at hy hR
   gi_wp2
   refine hR.mono ?_
   rintro e W3 (⟨rfl,hJ3,hk3⟩|⟨rfl,hJx3⟩)
   ·gi_wp2
    go_roundw
    case rel=> exact ⟨k+1,by omega,by simp,by rw [Q51,hkx];exact hJ3,⟨(hnx.alloc hnr _).trans hk3.1,hk3.2.trans ((heap_alloc_old wr _ (Kbq hBs0 hsz)).trans hbx)⟩,Kdq hsz (Kdq (by simp) hk3.1.size)⟩
    case measure=> simp [intOf];omega
   ·gi_wp2
    refine bodyPost_ret (results_none rfl _ _ _) rfl ?_
    exact ⟨⟨_,rfl⟩,.inr ⟨_,⟨k+1,by omega,by rw [Q51,hkx]⟩,hJx3⟩⟩
  ·obtain rfl:k=g.length:=by omega
   gi_wp2
   go_end0
   exact ⟨⟨_,rfl⟩,.inl ⟨_,rfl,hJs⟩⟩
abbrev Q0w (a b f s:Int) (v g:Value) (pl st:Int):Array Value:=#[.int .i64 a,.int .i64 b,.int .i64 f,.int .i64 s,v,g,.int .i64 pl,.int .i64 st]
theorem Qbk (F:Fence) (n:Nat) (h:F.fn 99) (hro:F.round=none) (a b f s:Int) (v g:Value) (pl st:Int) (w:World):
  CallsIn F n Tryz.prog 99 #[crr a b f s v g pl st] w fun e w'=> e=.returned (.func (.func 148) #[] #[.pointer (some ⟨w.heap.size,0,none⟩)])∧w'=w.alloc (.cells (Q0w a b f s v g pl st) 58):=by
 refine callsIn_of_wp Tryz.func99 rfl h ?_ hro
 simp only [Tryz.ntmps99,List.size_toArray,List.length_cons,List.length_nil,Nat.reduceAdd,Nat.reduceSub,Array.replicate_succ,Array.replicate_zero,List.push_toArray,List.append_toArray,List.nil_append,List.cons_append]
 gi_wp2
 go_ret
 exact ⟨rfl,rfl⟩
theorem Q75 (F:Fence) (n:Nat) (h:F.fn 148) (hro:F.round=none) (hn:1≤n) (Bs n₀ b off cap:Nat) (g:List (Int × Int)) (pl:Int) (hreach:g.length≤1048576) (w:World) (hBs:Bs < w.heap.size) (hb:b < n₀) (hn₀:n₀≤w.heap.size)
  (hc5:w.cell? ⟨Bs,5,none⟩=some (.slice (some ⟨b,off,none⟩) g.length cap)) (hc6:w.cell? ⟨Bs,6,none⟩=some (.int .i64 pl))
  (hc:∀j,j < g.length→w.cell? ⟨b,off+j * 2,none⟩=some (.int .i64 (g[j]?.getD (0,0)).1)∧w.cell? ⟨b,off+j * 2+1,none⟩=some (.int .i64 (g[j]?.getD (0,0)).2)):
  SeqStopsK F n Tryz.prog 148 #[.pointer (some ⟨Bs,0,none⟩)] (fun x:Qaz=> #[seg x.1.1 x.1.2,.bool x.2]) (KpB n₀ Bs) (fun ys=> ys=upto (Q2F g pl) g.length)
   (fun pre=> ∃k,k≤g.length∧pre=upto (Q2F g pl) k) g.length w:=fun l J Jx W hW hJ _ hY h0=> by
 have hWn:Below n₀ w W:=hW.mono hn₀
 exact QcT F n h hro hn l Bs n₀ b off cap g 0 0 0 0 pl 0 .nilFunc hreach hb J Jx hY W ((hW.cell (p:=⟨Bs,5,none⟩) hBs).trans hc5) ((hW.cell (p:=⟨Bs,6,none⟩) hBs).trans hc6)
  (fun j hj=> ⟨(hWn.cell (p:=⟨b,off+j * 2,none⟩) hb).trans (hc j hj).1,(hWn.cell (p:=⟨b,off+j * 2+1,none⟩) hb).trans (hc j hj).2⟩)
  (fun pre W1 o hs=> hJ pre W1 (W1.alloc o) none hs (World.grownBy_alloc W1 o none) (fun r e=> by cases e)) (Kdq hn₀ hW.size) (Kbq hBs hW.size) h0
theorem Q2L {W W':World} {B:Nat} {c:Array Value} {t:TypeId} {z:Nat × Nat} {row:Option Nat} (h:W.heap[B]? =some (.cells c t z)) (hg:W.grownBy W' row) (hr:∀r,row=some r→∃o:Obj,W.heap[r]? =some o∧o.isCells=false):W'.heap[B]? =some (.cells c t z):=by
 have hlt:B < W.heap.size:=(Array.getElem?_eq_some_iff.1 h).1
 refine (hg.block B hlt (fun e=> ?_)).trans h
 obtain ⟨o,ho,hn⟩:=hr B e.symm
 rw [h] at ho
 cases ho
 simp [Obj.isCells] at hn
end Go.Proofs.YtpneolgdghbinaaGreat
