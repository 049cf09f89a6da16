/- Several texts in one: SKI4, SKI5, SKI6, SKWho, OwnersW. -/
import Derived.Test.YtgplppfbinfelaaGreatQOwners47
import Derived.Test.YtgplppfbinfelaaGreatQOwners48
namespace Go.Proofs.YtgplppfbinfelaaGreat
open Go.ChangeShapes Go.WideShapes Go.ChangeAt Go.RowKit Go.Joins
set_option linter.unusedVariables false
set_option linter.unusedSimpArgs false
set_option maxRecDepth 100000
set_option maxHeartbeats 40000000
theorem QgZ:AppOk Q0J 54 98:=⟨Tryz.underlying54,⟨_,_,Qfn,rfl,by decide⟩,by decide,fun a u hu=> by
 simp [Q0J] at hu
 rcases hu with rfl|rfl|rfl|rfl <;> rfl⟩
def Q4p (xs:List Gt):Bool:=decide (xs.length≤1000) && (List.range xs.length).all (gtF xs)
theorem Q9W (v:Value) (xs:List Gt) (w:World) (hR:RdV Q0J w.heap.size w v xs) (hcap:QgM v) (hlen:xs.length≤1048576):
  Calls Tryz.prog 104 #[v] w fun e w'=> ∃o n c,e=.returned (.tuple #[.slice o n c,.bool (Q4p xs)])∧(Q4p xs=true→InL Q0J 98 w.heap.size w'.heap.size w' (.slice o n c) xs)∧Below w.heap.size w w':=by
 obtain ⟨o,cap,rfl,rd⟩:=hR
 obtain ⟨n,hn⟩:∃q,xs.length=q:=⟨_,rfl⟩
 have HN:=Q00 hn
 have HRD:=Q00 rd
 have hnil:o=none→cap=0:=fun e=> hcap _ _ (by rw [e])
 clear hcap rd
 rw [hn] at hlen ⊢
 clear hn
 by_cases h6:(1000:Int) < (n:Int)
 ·have HNO:Hid (Q4p xs=false):=by unfold Hid Q4p;rw [HN.out];simp;omega
  go_enter Tryz.func104,Tryz.ntmps104
  go_wp2
  refine bodyPost_ret (v:=.tuple #[.slice none 0 0,.bool false]) (by simp [results,Tryz.results104,go_sem]) rfl ⟨none,0,0,by rw [HNO.out],fun e=> absurd e (by rw [HNO.out];simp),Below.refl _ _⟩
 have HB6:Hid (∀k,k < n→gtF xs k=false→Q4p xs=false):=fun k hk hf=> by unfold Q4p;rw [Q2h (by rw [HN.out];exact hk) hf];simp
 have HY6:Hid ((List.range n).all (gtF xs)=true→Q4p xs=true):=fun hf=> by unfold Q4p;rw [HN.out,hf];simp;omega
 go_enter Tryz.func104,Tryz.ntmps104
 go_wp2
 go_loopw [11] (fun iv wr=> ∃(k:Nat),k≤n∧iv=.int .i64 (k:Int)∧Hid ((List.range k).all (gtF xs)=true)∧Hid (Below w.heap.size w wr))
  (fun iv _=> n - (intOf iv).toNat)
 case atStart=> exact ⟨0,Kcq _,rfl,rfl,Below.refl _ _⟩
 case round=>
  obtain ⟨k,hk8,rfl,HAL,HT⟩:=hrel
  by_cases hlt:k < n
  ·have z1:(k:Int) < (n:Int):=by omega
   obtain ⟨a,ha⟩:∃a,xs.getD k gt0=a:=⟨_,rfl⟩
   have HF:=Q00 (show gtF xs k=Qgh a by unfold gtF;rw [ha])
   rcases HRD.out with rg|⟨b,off,ho,hb,rg⟩
   ·have:=HN.out;rw [rg] at this;simp at this;omega
   subst ho
   obtain ⟨p0,p1,p2,p3⟩:=RdL.gt (C:=w.heap.size) rg k (by rw [HN.out];exact hlt)
   rw [ha] at p0 p1 p2 p3
   replace p0:=bCM HT.out p0 hb
   replace p1:=bCM HT.out p1 hb
   replace p2:=bCM HT.out p2 hb
   replace p3:=bCM HT.out p3 hb
   have hb1:Below wr.heap.size wr (wr.alloc (.cells #[.int .i64 a.a,.int .i64 a.p,.int .i64 a.bk,.int .i64 a.sq] 98)):=(Below.refl _ _).alloc (Kaq _) _
   have HB1:=Q00 hb1
   clear rg ha hb1 HRD
   go_wp2_with fail
   generalize wr.alloc (.cells #[.int .i64 a.a,.int .i64 a.p,.int .i64 a.bk,.int .i64 a.sq] 98)=w1 at *
   refine (Qdd a.a a.p a.bk a.sq w1).mono ?_
   rintro e w2 ⟨rfl,hb2⟩
   have HB2:=Q00 (HT.out.trans ((HB1.out.trans (hb2.mono HB1.out.size)).mono HT.out.size))
   obtain ⟨G,hG⟩:∃G,(Q0h a.a a.p && decide (0≤a.bk) && decide (a.bk < 6) && decide (0≤a.sq) && decide (a.sq≤65535))=G:=⟨_,rfl⟩
   have HG:=Q00 (show Qgh a=G from hG)
   rw [hG]
   clear hG hb2 p0 p1 p2 p3
   cases G with
   |false=>
    have HNO:=Q00 (HB6.out k hlt (by rw [HF.out,HG.out]))
    go_wp2
    refine bodyPost_ret (v:=.tuple #[.slice none 0 0,.bool false]) (by simp [results,Tryz.results104,go_sem]) rfl ⟨none,0,0,by rw [HNO.out],fun e=> absurd e (by rw [HNO.out];simp),HB2.out⟩
   |true=>
    have HS:Hid ((List.range (k+1)).all (gtF xs)=true):=by unfold Hid;rw [Q1Z,HAL.out,HF.out,HG.out];rfl
    go_wp2
    go_roundw
    case rel=> first
     |exact ⟨k+1,by omega,by go_num,HS.out,HB2.out⟩
     |(refine ⟨_, ?_,rfl⟩;exact ⟨k+1,by omega,by go_num,HS.out,HB2.out⟩)
    case measure=> simp [intOf];omega
  ·have e:k=n:=by omega
   subst e
   have hy:=Q00 (HY6.out HAL.out)
   go_wp2_with (at_builtin;refine Q0c QgZ rfl _ _ rfl w.heap.size _ [] rfl (World.ownsRow_nil _ _ _ _) o cap w.heap.size xs k HN.out.symm rfl hnil ?c0 ?c1 ?c2 ?_)
   case c0=> exact HRD.out.kept HT.out (Kaq _)
   case c1=> have:=HN.out;simp;omega
   case c2=> exact HT.out.size
   intro v2 w6 hv2 hg2 _
   replace hv2:ownL Q0J 98 w6 w.heap.size v2 xs:=by simpa using hv2
   have HV:=Q00 (InRow.of hv2)
   have HB6':=Q00 (HT.out.grown hg2 HT.out.size (fun k h=> by cases h))
   obtain ⟨o2,c2,rfl,_⟩:=InL.rd (L:=Q0J) HV.out
   have hn:=HN.out
   clear hv2 hg2
   go_wp2
   refine bodyPost_ret (v:=.tuple #[.slice o2 xs.length c2,.bool true]) (by simp [results,Tryz.results104,go_sem]) rfl ⟨_,_,_,by rw [hy.out],fun _=> HV.out,HB6'.out⟩
end Go.Proofs.YtgplppfbinfelaaGreat
namespace Go.Proofs.YtgplppfbinfelaaGreat
open Go.ChangeShapes Go.WideShapes Go.ChangeAt Go.RowKit Go.Joins
set_option linter.unusedVariables false
set_option linter.unusedSimpArgs false
set_option maxRecDepth 100000
set_option maxHeartbeats 40000000
theorem QgV:AppOk Q0A 53 96:=⟨Tryz.underlying53,⟨_,_,QgE,rfl,by decide⟩,by decide,fun a u hu=> by
 simp [Q0A] at hu
 rcases hu with rfl|rfl|rfl|rfl|rfl|rfl|rfl|rfl|rfl|rfl|rfl|rfl <;> rfl⟩
theorem Qhk:(5:TypeId)≠231:=by decide
section
variable {η α:Type}
theorem RwE.grow {E:El η α} {xs:List α} {a b:Nat} {w w':World} {hs:List η} {L H:Nat→Nat} {r:Option Nat} (h:RwE E xs a b w hs L H) (hg:w.grownBy w' r) (hd:∀i,i < xs.length→∀g,r=some g→g < L i∨H i≤g):RwE E xs a b w' hs L H:=by
 refine ⟨h.len,h.bd,h.sep,fun i hi=> ?_⟩
 cases r with
 |none=> exact E.qs.go (h.row i hi) (Stp.grown (lo:=0) (hi:=0) hg (fun b e=> by cases e)) (.inl (Kcq _))
 |some g=> exact E.qs.go (h.row i hi) (Stp.grown (lo:=g) (hi:=g+1) hg (fun b e=> by cases e;omega)) (by have:=hd i hi g rfl;omega)
theorem RwE.more {E:El η α} {v1 w8:World} {mid b0 l2 n:Nat} {hs:List η} {L H:Nat→Nat} {xs:List α} {x:α} {y:η} {oQ:Option Addr} {cQ:Nat} {O:Obj} (h:RwE E xs mid b0 v1 hs L H) (hxn:xs.length=n) (hb:b0≤l2) (hm:mid≤l2) (hl:l2≤v1.heap.size) (q:E.Q l2 v1.heap.size v1 (E.val y) x) (hout:Qbl (.slice oQ n cQ) n L H) (hlt:∀g,(Value.slice oQ n cQ).ownBlock=some g→g < b0) (hg:(v1.alloc O).grownBy w8 (Value.slice oQ n cQ).ownBlock):
  RwE E (xs++[x]) mid w8.heap.size w8 (hs++[y]) (fun i=> if i < n then L i else l2) (fun i=> if i < n then H i else v1.heap.size):=by
 subst hxn
 have h1:=h.snoc hb hm hl q
 have h2:=h1.kept ((Below.refl v1.heap.size v1).alloc (Kaq _) O)
 have hsz:=hg.size
 rw [World.size_alloc] at hsz
 refine (h2.grow hg (fun i hi g e=> ?_)).mono (Kaq _) (by omega)
 by_cases hi':i < xs.length
 ·simp only [hi',if_true];exact hout i hi' g e
 ·simp only [hi',if_false];have:=hlt g e;omega
theorem QcU {v1:World} {b0 l2:Nat} {L H:Nat→Nat} {n:Nat} {oQ o8:Option Addr} {cQ c8:Nat} (hout:Qbl (.slice oQ n cQ) n L H) (hH:∀i,i < n→H i≤b0) (hb:b0≤l2) (hl:l2≤v1.heap.size) (hlt:∀g,(Value.slice oQ n cQ).ownBlock=some g→g < b0) (hn:(Value.slice o8 (n+1) c8).ownBlock=(Value.slice oQ n cQ).ownBlock∨(Value.slice o8 (n+1) c8).ownBlock=some (v1.heap.size+1)):
  Qbl (.slice o8 (n+1) c8) (n+1) (fun i=> if i < n then L i else l2) (fun i=> if i < n then H i else v1.heap.size):=fun i hi g e=> by
 rcases hn with hn|hn
 ·rw [hn] at e
  by_cases hi':i < n
  ·simp only [hi',if_true];exact hout i hi' g e
  ·simp only [hi',if_false];have:=hlt g e;omega
 ·rw [hn] at e
  have e':v1.heap.size+1=g:=Option.some.inj e
  by_cases hi':i < n
  ·simp only [hi',if_true];have:=hH i hi';omega
  ·simp only [hi',if_false];omega
theorem InE.at {E:El η α} {T:TypeId} {lo hi:Nat} {w:World} {o:Option Addr} {n c:Nat} {xs:List α} (h:InE E T lo hi w (.slice o n c) xs) (i:Nat) (hi':i < xs.length):
  ∃b off y l1 h1,o=some ⟨b,off,none⟩∧b < hi∧(∀j,j < E.L.k→w.cell? ⟨b,off+i * E.L.k+j,none⟩=(E.L.cs y)[j]?)∧lo≤l1∧h1≤hi∧E.Q l1 h1 w (E.val y) (xs.getD i E.d):=by
 obtain ⟨hs,L,H,h0,h1,h2⟩:=h
 obtain ⟨o1,c1,e,r⟩:=(InRow.ri h0).open
 injection e with e1 e2 e3
 subst e1
 have hl:=h1.len
 rcases r with r|⟨b,off,ho,hb,r⟩
 ·subst r;simp at hl;omega
 ·exact ⟨b,off,hs.getD i E.L.d,L i,H i,ho,hb,r i (by omega),(h1.bd i hi').1,(h1.bd i hi').2,h1.row i hi'⟩
end
theorem InE.mail {lo hi:Nat} {w:World} {o:Option Addr} {n c:Nat} {xs:List Mm} (h:InE elM 96 lo hi w (.slice o n c) xs) (i:Nat) (hi':i < xs.length) {m:Mm} (hm:xs.getD i mmD=m):
  ∃b off o1 c1 o2 c2,o=some ⟨b,off,none⟩∧b < hi∧w.cell? ⟨b,off+i * 12,none⟩=some (.int .i64 m.k)∧w.cell? ⟨b,off+i * 12+1,none⟩=some (.int .i64 m.c.a)∧w.cell? ⟨b,off+i * 12+2,none⟩=some (.int .i64 m.c.b)∧w.cell? ⟨b,off+i * 12+3,none⟩=some (.int .i64 m.c.f)∧w.cell? ⟨b,off+i * 12+4,none⟩=some (.int .i64 m.c.s)∧w.cell? ⟨b,off+i * 12+5,none⟩=some (.slice o1 m.c.l.length c1)∧w.cell? ⟨b,off+i * 12+6,none⟩=some (.slice o2 m.c.g.length c2)∧w.cell? ⟨b,off+i * 12+7,none⟩=some (.int .i64 m.c.pl)∧w.cell? ⟨b,off+i * 12+8,none⟩=some (.int .i64 m.c.st)∧w.cell? ⟨b,off+i * 12+9,none⟩=some (.int .i64 m.fa)∧w.cell? ⟨b,off+i * 12+10,none⟩=some (.int .i64 m.fp)∧w.cell? ⟨b,off+i * 12+11,none⟩=some (.int .i64 m.bk)∧RdL QbT hi w o1 m.c.l∧(o1=none→c1=0)∧RdL Q6S hi w o2 m.c.g∧(o2=none→c2=0):=by
 obtain ⟨b,off,y,l1,h1,rfl,hb,hc,k1,k2,hr⟩:=h.at i hi'
 rw [show xs.getD i elM.d=m from hm] at hr
 obtain ⟨v1,v2,a,b',a',b'',e,kk,i1,i2,_⟩:=hr
 obtain ⟨o1,c1,rfl,r1⟩:=InL.rd i1
 obtain ⟨o2,c2,rfl,r2⟩:=InL.rd i2
 have e':Value.agg #[.int .i64 y.k,.int .i64 y.a,.int .i64 y.b,.int .i64 y.f,.int .i64 y.s,.slice y.l.1 y.l.2.1 y.l.2.2,.slice y.g.1 y.g.2.1 y.g.2.2,.int .i64 y.pl,.int .i64 y.st,.int .i64 y.fa,.int .i64 y.fp,.int .i64 y.bk]=Value.agg #[.int .i64 m.k,.int .i64 m.c.a,.int .i64 m.c.b,.int .i64 m.c.f,.int .i64 m.c.s,.slice o1 m.c.l.length c1,.slice o2 m.c.g.length c2,.int .i64 m.c.pl,.int .i64 m.c.st,.int .i64 m.fa,.int .i64 m.fp,.int .i64 m.bk]:=e
 simp only [Value.agg.injEq,Array.mk.injEq,List.cons.injEq,and_true] at e'
 obtain ⟨e0,e1,e2,e3,e4,e5,e6,e7,e8,e9,e10,e11⟩:=e'
 have h0:w.cell? ⟨b,off+i * 12,none⟩=some _:=hc 0 (by decide)
 rw [e0] at h0
 have h1:w.cell? ⟨b,off+i * 12+1,none⟩=some _:=hc 1 (by decide)
 rw [e1] at h1
 have h2:w.cell? ⟨b,off+i * 12+2,none⟩=some _:=hc 2 (by decide)
 rw [e2] at h2
 have h3:w.cell? ⟨b,off+i * 12+3,none⟩=some _:=hc 3 (by decide)
 rw [e3] at h3
 have h4:w.cell? ⟨b,off+i * 12+4,none⟩=some _:=hc 4 (by decide)
 rw [e4] at h4
 have h5:w.cell? ⟨b,off+i * 12+5,none⟩=some _:=hc 5 (by decide)
 rw [e5] at h5
 have h6:w.cell? ⟨b,off+i * 12+6,none⟩=some _:=hc 6 (by decide)
 rw [e6] at h6
 have h7:w.cell? ⟨b,off+i * 12+7,none⟩=some _:=hc 7 (by decide)
 rw [e7] at h7
 have h8:w.cell? ⟨b,off+i * 12+8,none⟩=some _:=hc 8 (by decide)
 rw [e8] at h8
 have h9:w.cell? ⟨b,off+i * 12+9,none⟩=some _:=hc 9 (by decide)
 rw [e9] at h9
 have h10:w.cell? ⟨b,off+i * 12+10,none⟩=some _:=hc 10 (by decide)
 rw [e10] at h10
 have h11:w.cell? ⟨b,off+i * 12+11,none⟩=some _:=hc 11 (by decide)
 rw [e11] at h11
 exact ⟨b,off,o1,c1,o2,c2,rfl,hb,h0,h1,h2,h3,h4,h5,h6,h7,h8,h9,h10,h11,r1.le (by omega),fun q=> i1.cap _ _ (by rw [q]),r2.le (by omega),fun q=> i2.cap _ _ (by rw [q])⟩
theorem QfC (w:World) (y:Mh) (T:TypeId):RdL Q0A (w.alloc (.cells (Q0A.cs y).toArray T)).heap.size (w.alloc (.cells (Q0A.cs y).toArray T)) (some ⟨w.heap.size,0,none⟩) [y]:=by
 refine .inr ⟨w.heap.size,0,rfl,by simp,fun i hi j hj=> ?_⟩
 have hi0:i=0:=by simpa using hi
 subst hi0
 have hj':j=0∨j=1∨j=2∨j=3∨j=4∨j=5∨j=6∨j=7∨j=8∨j=9∨j=10∨j=11:=by have:j < 12:=hj;omega
 rcases hj' with rfl|rfl|rfl|rfl|rfl|rfl|rfl|rfl|rfl|rfl|rfl|rfl <;> simp [go_sem,Q0A]
def QbF (now:Int) (xs:List Mm):Bool:=decide (xs.length≤60) && (List.range xs.length).all (mlF now xs)
theorem QaE (lo hi:Nat) (v:Value) (xs:List Mm) (now:Int) (w:World) (hR:InE elM 96 lo hi w v xs) (hh:hi≤w.heap.size) (hlen:xs.length≤1048576) (hx:∀i,i < xs.length→QaQ (xs.getD i mmD).c):
  Calls Tryz.prog 103 #[v,.int .i64 now] w fun e w'=> ∃o n c,e=.returned (.tuple #[.slice o n c,.bool (QbF now xs)])∧(QbF now xs=true→InE elM 96 w.heap.size w'.heap.size w' (.slice o n c) xs)∧Below w.heap.size w w':=by
 obtain ⟨o,cap,rfl⟩:=hR.ri.len
 obtain ⟨n,hn⟩:∃q,xs.length=q:=⟨_,rfl⟩
 have HN:=Q00 hn
 have HRD:=Q00 hR
 have HX:=Q00 hx
 have HH:=Q00 hh
 have HLEN:=Q00 hlen
 rw [hn] at HRD ⊢
 clear hn hR hx hh hlen
 by_cases h6:(60:Int) < (n:Int)
 ·have HNO:Hid (QbF now xs=false):=by unfold Hid QbF;rw [HN.out];simp;omega
  go_enter Tryz.func103,Tryz.ntmps103
  go_wp2
  refine bodyPost_ret (v:=.tuple #[.slice none 0 0,.bool false]) (by simp [results,Tryz.results103,go_sem]) rfl ⟨none,0,0,by rw [HNO.out],fun e=> absurd e (by rw [HNO.out];simp),Below.refl _ _⟩
 have HB6:Hid (∀k,k < n→mlF now xs k=false→QbF now xs=false):=fun k hk hf=> by unfold QbF;rw [Q2h (by rw [HN.out];exact hk) hf];simp
 have HY6:Hid ((List.range n).all (mlF now xs)=true→QbF now xs=true):=fun hf=> by unfold QbF;rw [HN.out,hf];simp;omega
 go_enter Tryz.func103,Tryz.ntmps103
 go_wp2
 go_loopw [6,14] (fun bv iv wr=> ∃(k:Nat) (hs:List Mh) (L H:Nat→Nat) (oQ:Option Addr) (cQ:Nat),k≤n∧iv=.int .i64 (k:Int)∧bv=.slice oQ k cQ∧Hid ((List.range k).all (mlF now xs)=true)∧Hid (ownL Q0A 96 wr w.heap.size (.slice oQ k cQ) hs)∧Hid (RwE elM (xs.take k) w.heap.size wr.heap.size wr hs L H)∧Hid (Qbl (.slice oQ k cQ) k L H)∧Hid (Below w.heap.size w wr))
  (fun _ iv _=> n - (intOf iv).toNat)
 case atStart=> exact ⟨0,[],fun _=> 0,fun _=> 0,none,0,Kcq _,rfl,rfl,rfl,World.ownsRow_nil _ _ _ _,by rw [List.take_zero];exact RwE.nil _ _ _ _ _ _,fun i h=> absurd h (Nat.not_lt_zero _),Below.refl _ _⟩
 case round=>
  obtain ⟨k,hs,L,H,oQ,cQ,hk8,rfl,rfl,HAL,HO,HR,HOUT,HT⟩:=hrel
  have HHL:Hid (hs.length=k):=by have h1:=HR.out.len;rw [List.length_take,HN.out] at h1;unfold Hid;omega
  by_cases hlt:k < n
  ·have z1:(k:Int) < (n:Int):=by omega
   obtain ⟨m,hm⟩:∃m,xs.getD k mmD=m:=⟨_,rfl⟩
   have HS:=Q00 (Q3g (xs:=xs) mmD (by rw [HN.out];exact hlt))
   have hfit:=HX.out k (by rw [HN.out];exact hlt)
   rw [hm] at HS hfit
   have HML:=Q00 (show mlF now xs k=(Qdw m && decide (m.c.st≤now)) by unfold mlF;rw [hm])
   obtain ⟨b,off,o1,c1,o2,c2,rfl,hbl,p0,p1,p2,p3,p4,p5,p6,p7,p8,p9,p10,p11,r1,n1,r2,n2⟩:=InE.mail HRD.out k (by rw [HN.out];exact hlt) hm
   have hC:=Kbq hbl HH.out
   replace p0:=bCM HT.out p0 hC
   replace p1:=bCM HT.out p1 hC
   replace p2:=bCM HT.out p2 hC
   replace p3:=bCM HT.out p3 hC
   replace p4:=bCM HT.out p4 hC
   replace p5:=bCM HT.out p5 hC
   replace p6:=bCM HT.out p6 hC
   replace p7:=bCM HT.out p7 hC
   replace p8:=bCM HT.out p8 hC
   replace p9:=bCM HT.out p9 hC
   replace p10:=bCM HT.out p10 hC
   replace p11:=bCM HT.out p11 hC
   have HRR:=Q00 (fun W (hb:Below w.heap.size w W)=> And.intro ((r1.kept hb HH.out).le (Kdq HH.out hb.size)) ((r2.kept hb HH.out).le (Kdq HH.out hb.size)))
   have HNIL:=Q00 (And.intro n1 n2)
   have HFIT:=Q00 hfit
   have HM1:=Q00 (fun W (hb:Below w.heap.size w W)=> Q8B (mlv m.k m.c.a m.c.b m.c.f m.c.s (.slice o1 m.c.l.length c1) (.slice o2 m.c.g.length c2) m.c.pl m.c.st m.fa m.fp m.bk) m now W ⟨_,_,rfl,⟨_,_,rfl,(HRR.out W hb).1⟩,⟨_,_,rfl,(HRR.out W hb).2⟩⟩ HFIT.out)
   have HM2:=Q00 (fun W (hb:Below w.heap.size w W)=> Q8n m.k m.c.a m.c.b m.c.f m.c.s o1 o2 c1 c2 m.c.l m.c.g m.c.pl m.c.st m.fa m.fp m.bk W (Q92.1 (HRR.out W hb).1) HNIL.out.1 (by have:=HFIT.out.1;omega) (Q6q.1 (HRR.out W hb).2) HNIL.out.2 (by have:=HFIT.out.1;omega))
   clear hm hfit r1 n1 r2 n2
   obtain ⟨B,hB⟩:∃B,Qdw m=B:=⟨_,rfl⟩
   rw [hB] at HML
   replace HM1:=Q00 (show ∀W,Below w.heap.size w W→Calls Tryz.prog 162 #[mlv m.k m.c.a m.c.b m.c.f m.c.s (.slice o1 m.c.l.length c1) (.slice o2 m.c.g.length c2) m.c.pl m.c.st m.fa m.fp m.bk,.int .i64 now] W fun e w'=> e=.returned (.bool (B && decide (m.c.st≤now)))∧Below W.heap.size W w' from hB ▸ HM1.out)
   clear hB
   obtain ⟨q1,hq1⟩:∃q,m.c.l.length=q:=⟨_,rfl⟩
   obtain ⟨q2,hq2⟩:∃q,m.c.g.length=q:=⟨_,rfl⟩
   have HQ:=Q00 (And.intro hq1 hq2)
   rw [hq1] at p5
   rw [hq2] at p6
   rw [hq1,hq2] at HM1 HM2
   obtain ⟨B2,hB2⟩:∃B2,(B && decide (m.c.st≤now))=B2:=⟨_,rfl⟩
   rw [hB2] at HM1 HML
   clear hB2 hq1 hq2 HRR
   have hb1:Below wr.heap.size wr (wr.alloc (.cells #[.int .i64 m.k,.int .i64 m.c.a,.int .i64 m.c.b,.int .i64 m.c.f,.int .i64 m.c.s,.slice o1 q1 c1,.slice o2 q2 c2,.int .i64 m.c.pl,.int .i64 m.c.st,.int .i64 m.fa,.int .i64 m.fp,.int .i64 m.bk] 96)):=(Below.refl _ _).alloc (Kaq _) _
   have bx:=World.alloc_heap_new wr (.cells #[.int .i64 m.k,.int .i64 m.c.a,.int .i64 m.c.b,.int .i64 m.c.f,.int .i64 m.c.s,.slice o1 q1 c1,.slice o2 q2 c2,.int .i64 m.c.pl,.int .i64 m.c.st,.int .i64 m.fa,.int .i64 m.fp,.int .i64 m.bk] 96)
   have HB1:=Q00 hb1
   have HBX:=Q00 bx
   clear hb1 bx
   go_wp2_with fail
   generalize wr.alloc (.cells #[.int .i64 m.k,.int .i64 m.c.a,.int .i64 m.c.b,.int .i64 m.c.f,.int .i64 m.c.s,.slice o1 q1 c1,.slice o2 q2 c2,.int .i64 m.c.pl,.int .i64 m.c.st,.int .i64 m.fa,.int .i64 m.fp,.int .i64 m.bk] 96)=w1 at *
   refine (HM1.out w1 (HT.out.trans (HB1.out.mono HT.out.size))).mono ?_
   rintro e w2 ⟨rfl,hb2⟩
   have HB12:=Q00 (HB1.out.trans (hb2.mono HB1.out.size))
   have HB2:=Q00 (HT.out.trans (HB12.out.mono HT.out.size))
   cases B2 with
   |false=>
    have HNO:=Q00 (HB6.out k hlt (by rw [HML.out]))
    clear hb2 p0 p1 p2 p3 p4 p5 p6 p7 p8 p9 p10 p11
    go_wp2
    refine bodyPost_ret (v:=.tuple #[.slice none 0 0,.bool false]) (by simp [results,Tryz.results103,go_sem]) rfl ⟨none,0,0,by rw [HNO.out],fun e=> absurd e (by rw [HNO.out];simp),HB2.out⟩
   |true=>
    have bx2:=Qdm HBX.out hb2
    have s12:=hb2.size
    clear hb2 p0 p1 p2 p3 p4 p5 p6 p7 p8 p9 p10 p11
    have y0:w2.cell? ⟨wr.heap.size,0,none⟩=some (.int .i64 m.k):=Q01 bx2 0 _ rfl
    have y1:w2.cell? ⟨wr.heap.size,1,none⟩=some (.int .i64 m.c.a):=Q01 bx2 1 _ rfl
    have y2:w2.cell? ⟨wr.heap.size,2,none⟩=some (.int .i64 m.c.b):=Q01 bx2 2 _ rfl
    have y3:w2.cell? ⟨wr.heap.size,3,none⟩=some (.int .i64 m.c.f):=Q01 bx2 3 _ rfl
    have y4:w2.cell? ⟨wr.heap.size,4,none⟩=some (.int .i64 m.c.s):=Q01 bx2 4 _ rfl
    have y5:w2.cell? ⟨wr.heap.size,5,none⟩=some (.slice o1 q1 c1):=Q01 bx2 5 _ rfl
    have y6:w2.cell? ⟨wr.heap.size,6,none⟩=some (.slice o2 q2 c2):=Q01 bx2 6 _ rfl
    have y7:w2.cell? ⟨wr.heap.size,7,none⟩=some (.int .i64 m.c.pl):=Q01 bx2 7 _ rfl
    have y8:w2.cell? ⟨wr.heap.size,8,none⟩=some (.int .i64 m.c.st):=Q01 bx2 8 _ rfl
    have y9:w2.cell? ⟨wr.heap.size,9,none⟩=some (.int .i64 m.fa):=Q01 bx2 9 _ rfl
    have y10:w2.cell? ⟨wr.heap.size,10,none⟩=some (.int .i64 m.fp):=Q01 bx2 10 _ rfl
    have y11:w2.cell? ⟨wr.heap.size,11,none⟩=some (.int .i64 m.bk):=Q01 bx2 11 _ rfl
    go_wp2_with fail
    refine (HM2.out w2 HB2.out).mono ?_
    rintro e w3 ⟨p1,d1,p2,d2,rfl,hv1,hv2,hb3⟩
    have HB3:=Q00 (HB2.out.trans (hb3.mono HB2.out.size))
    have HB23:=Q00 (HB12.out.trans (hb3.mono HB12.out.size))
    have s3:=hb3.size
    have HV:=Q00 (show elM.Q w2.heap.size w3.heap.size w3 (elM.val (⟨m.k,m.c.a,m.c.b,m.c.f,m.c.s,(p1,q1,d1),(p2,q2,d2),m.c.pl,m.c.st,m.fa,m.fp,m.bk⟩:Mh)) m from ⟨_,_,_,_,_,_,rfl,⟨Kaq _,Kaq _,Kaq _,Kaq _⟩,InRow.of (Q46.1 hv1),InRow.of (Q5r.1 hv2),Q2x (Q46.1 hv1) (Q5r.1 hv2) Qhk⟩)
    have FO:=Q00 (World.ownsRow.alloc (Q0b HO.out HB23.out) (.cells #[.int .i64 m.k,.int .i64 m.c.a,.int .i64 m.c.b,.int .i64 m.c.f,.int .i64 m.c.s,.slice p1 q1 d1,.slice p2 q2 d2,.int .i64 m.c.pl,.int .i64 m.c.st,.int .i64 m.fa,.int .i64 m.fp,.int .i64 m.bk] 96))
    have FX:=Q00 (show RdL Q0A (w3.alloc (.cells #[.int .i64 m.k,.int .i64 m.c.a,.int .i64 m.c.b,.int .i64 m.c.f,.int .i64 m.c.s,.slice p1 q1 d1,.slice p2 q2 d2,.int .i64 m.c.pl,.int .i64 m.c.st,.int .i64 m.fa,.int .i64 m.fp,.int .i64 m.bk] 96)).heap.size (w3.alloc (.cells #[.int .i64 m.k,.int .i64 m.c.a,.int .i64 m.c.b,.int .i64 m.c.f,.int .i64 m.c.s,.slice p1 q1 d1,.slice p2 q2 d2,.int .i64 m.c.pl,.int .i64 m.c.st,.int .i64 m.fa,.int .i64 m.fp,.int .i64 m.bk] 96)) (some ⟨w3.heap.size,0,none⟩) [(⟨m.k,m.c.a,m.c.b,m.c.f,m.c.s,(p1,q1,d1),(p2,q2,d2),m.c.pl,m.c.st,m.fa,m.fp,m.bk⟩:Mh)] from QfC w3 (⟨m.k,m.c.a,m.c.b,m.c.f,m.c.s,(p1,q1,d1),(p2,q2,d2),m.c.pl,m.c.st,m.fa,m.fp,m.bk⟩:Mh) 96)
    have HSL:=Q00 (show (hs++[(⟨m.k,m.c.a,m.c.b,m.c.f,m.c.s,(p1,q1,d1),(p2,q2,d2),m.c.pl,m.c.st,m.fa,m.fp,m.bk⟩:Mh)]).length=k+1 by simp [HHL.out])
    have HAL2:Hid ((List.range (k+1)).all (mlF now xs)=true):=by unfold Hid;rw [Q1Z,HAL.out,HML.out];rfl
    clear hv1 hv2 hb3 y0 y1 y2 y3 y4 y5 y6 y7 y8 y9 y10 y11 bx2
    go_wp2_with (at_builtin;refine Q0c QgV rfl _ _ rfl w.heap.size _ hs rfl FO.out (some ⟨w3.heap.size,0,none⟩) 1 _ [(⟨m.k,m.c.a,m.c.b,m.c.f,m.c.s,(p1,q1,d1),(p2,q2,d2),m.c.pl,m.c.st,m.fa,m.fp,m.bk⟩:Mh)] 1 rfl rfl (fun h=> by cases h) FX.out ?e2 ?e3 ?_)
    case e2=> have:=HHL.out;simp;omega
    case e3=> exact Kdq HB3.out.size (by simp)
    intro v8 w8 hv8 hg8 hn8
    obtain ⟨o8,c8,e8,_⟩:=InL.rd (L:=Q0A) (InRow.of hv8)
    rw [HSL.out] at e8
    subst e8
    have hlt0:∀g,(Value.slice oQ k cQ).ownBlock=some g→g < wr.heap.size:=fun g e=> (HO.out.lt g e).2
    have hgt0:∀g,(Value.slice oQ k cQ).ownBlock=some g→w.heap.size≤g:=fun g e=> (HO.out.lt g e).1
    have htk:(xs.take k).length=k:=by rw [List.length_take,HN.out];omega
    have HRW:=Q00 (RwE.more (y:=(⟨m.k,m.c.a,m.c.b,m.c.f,m.c.s,(p1,q1,d1),(p2,q2,d2),m.c.pl,m.c.st,m.fa,m.fp,m.bk⟩:Mh)) (HR.out.kept HB23.out) htk HB12.out.size (Kdq HT.out.size HB12.out.size) s3 HV.out HOUT.out hlt0 hg8)
    rw [←HS.out] at HRW
    have HO8:=Q00 (QcU (l2:=w2.heap.size) HOUT.out (fun i hi=> (HR.out.bd i (by rw [htk];exact hi)).2) HB12.out.size s3 hlt0 hn8)
    have HB8:=Q00 ((HB3.out.alloc HB3.out.size _).grown hg8 (Kdq HB3.out.size (by simp)) hgt0)
    have HV8:=Q00 hv8
    clear hv8 hg8 hn8 hlt0 hgt0 htk
    go_wp2
    go_roundw
    case rel=> first
     |exact ⟨k+1,hs++[(⟨m.k,m.c.a,m.c.b,m.c.f,m.c.s,(p1,q1,d1),(p2,q2,d2),m.c.pl,m.c.st,m.fa,m.fp,m.bk⟩:Mh)],_,_,o8,c8,by omega,by go_num,rfl,HAL2.out,HV8.out,HRW.out,HO8.out,HB8.out⟩
     |(refine ⟨_, ?_,rfl⟩;exact ⟨k+1,hs++[(⟨m.k,m.c.a,m.c.b,m.c.f,m.c.s,(p1,q1,d1),(p2,q2,d2),m.c.pl,m.c.st,m.fa,m.fp,m.bk⟩:Mh)],_,_,o8,c8,by omega,by go_num,rfl,HAL2.out,HV8.out,HRW.out,HO8.out,HB8.out⟩)
    case measure=> simp [intOf];omega
  ·have e:k=n:=by omega
   subst e
   have hy:=Q00 (HY6.out HAL.out)
   have h2:=HR.out
   rw [show xs.take k=xs from by rw [←HN.out];exact List.take_length] at h2
   have HRW:=Q00 h2
   have h3:=HOUT.out
   rw [←HN.out] at h3
   have HO3:=Q00 h3
   clear h2 h3
   go_wp2
   refine bodyPost_ret (v:=.tuple #[.slice oQ k cQ,.bool true]) (by simp [results,Tryz.results103,go_sem]) rfl ⟨_,_,_,by rw [hy.out],fun _=> ⟨hs,L,H,InRow.of HO.out,HRW.out,by have h:=HO3.out;rw [HN.out] at h;rw [HN.out];exact h⟩,HT.out⟩
end Go.Proofs.YtgplppfbinfelaaGreat
namespace Go.Proofs.YtgplppfbinfelaaGreat
open Go.ChangeShapes Go.WideShapes Go.ChangeAt Go.RowKit Go.Joins
set_option linter.unusedVariables false
set_option linter.unusedSimpArgs false
set_option maxRecDepth 100000
set_option maxHeartbeats 40000000
theorem InBl.step {a b lo hi:Nat} {w w':World} {v:Value} {j:Jm} {p:Pm} {t:List Sl} (h:InBl a b w v j p t) (s:Stp lo hi w w') (hd:hi≤a∨b≤lo):InBl a b w' v j p t:=by
 obtain ⟨vt,vl,vb,vr,x,y,e,k1,k2,k3,h1,h2,h3⟩:=h
 exact ⟨vt,vl,vb,vr,x,y,e,k1,k2,k3,h1.step s (by omega),InRow.step h2 s (by omega),h3.step s (by omega)⟩
def InKl (lo hi:Nat) (w:World) (P:Nat) (m:Km):Prop:=∃xo xn xc kq yo yn yc sq kr uo un uc vo vn vc pa la da pm lm dm pg lg dg b0 b1 a0 a1 m0 m1 g0 g1,w.heap[P]? =some (.cells #[.int .i64 m.now,.slice xo xn xc,.int .i64 kq,.slice yo yn yc,.int .i64 sq,.int .i64 kr,.slice uo un uc,.slice vo vn vc,.slice pa la da,.slice pm lm dm,.slice pg lg dg,.int .i64 m.rst,.int .i64 m.gone] 135 (0,0))∧(lo≤P∧P < hi∧lo≤b0∧b1≤hi∧(P < b0∨b1≤P)∧lo≤a0∧a1≤hi∧(P < a0∨a1≤P)∧lo≤m0∧m1≤hi∧(P < m0∨m1≤P)∧lo≤g0∧g1≤hi∧(P < g0∨g1≤P)∧(b1≤a0∨a1≤b0)∧(b1≤m0∨m1≤b0)∧(b1≤g0∨g1≤b0)∧(a1≤m0∨m1≤a0)∧(a1≤g0∨g1≤a0)∧(m1≤g0∨g1≤m0))∧InBl b0 b1 w (QdZ (.slice xo xn xc) kq (.slice yo yn yc) sq kr (.slice uo un uc) (.slice vo vn vc)) m.bal.j (Q12 m.bal.j) m.bal.t∧InE elG 140 a0 a1 w (.slice pa la da) m.ags∧InE elM 96 m0 m1 w (.slice pm lm dm) m.bag∧InL Q0J 98 g0 g1 w (.slice pg lg dg) m.got
theorem InKl.step {x y lo hi P:Nat} {w w':World} {m:Km} (h:InKl x y w P m) (s:Stp lo hi w w') (hd:hi≤x∨y≤lo):InKl x y w' P m:=by
 obtain ⟨xo,xn,xc,kq,yo,yn,yc,sq,kr,uo,un,uc,vo,vn,vc,pa,la,da,pm,lm,dm,pg,lg,dg,b0,b1,a0,a1,m0,m1,g0,g1,e,k,h1,h2,h3,h4⟩:=h
 exact ⟨xo,xn,xc,kq,yo,yn,yc,sq,kr,uo,un,uc,vo,vn,vc,pa,la,da,pm,lm,dm,pg,lg,dg,b0,b1,a0,a1,m0,m1,g0,g1,s.box e (by omega),k,h1.step s (by omega),(InE.stp _ _).go h2 s (by omega),(InE.stp _ _).go h3 s (by omega),InRow.step h4 s (by omega)⟩
def QgQ (n:Int):Bool:=decide (0≤n) && decide (n≤99000)
def Q5W (n:Int):Bool:=decide (0≤n) && decide (n≤100000)
theorem QcQ (m:Km):okK m=(QgQ m.now && Q5W m.rst && Q5W m.gone && Q9L m.bal && Qbs m.ags && QbF m.now m.bag && Q4p m.got):=by
 rw [Bool.eq_iff_iff]
 unfold okK Qa5 Qbs QbF Q4p QgQ Q5W
 simp only [Bool.and_eq_true]
 constructor
 ·rintro ⟨⟨⟨⟨⟨⟨⟨⟨⟨⟨⟨⟨n0,n1⟩,b⟩,l6⟩,l60⟩,lk⟩,r0⟩,r1⟩,g0⟩,g1⟩,a⟩,q⟩,g⟩
  exact ⟨⟨⟨⟨⟨⟨⟨n0,n1⟩,r0,r1⟩,g0,g1⟩,b⟩,l6,a⟩,l60,q⟩,lk,g⟩
 ·rintro ⟨⟨⟨⟨⟨⟨⟨n0,n1⟩,r0,r1⟩,g0,g1⟩,b⟩,l6,a⟩,l60,q⟩,lk,g⟩
  exact ⟨⟨⟨⟨⟨⟨⟨⟨⟨⟨⟨⟨n0,n1⟩,b⟩,l6⟩,l60⟩,lk⟩,r0⟩,r1⟩,g0⟩,g1⟩,a⟩,q⟩,g⟩
theorem Q6l (lo hi:Nat) (v:Value) (m:Km) (w:World) (h:InKm lo hi w v m) (hh:hi≤w.heap.size) (hf:Q6y m):
  Calls Tryz.prog 49 #[v] w fun e w'=> ((okK m=false∧e=.returned (.tuple #[.pointer none,.bool false]))∨(okK m=true∧∃P,e=.returned (.tuple #[.pointer (some ⟨P,0,none⟩),.bool true])∧InKl w.heap.size w'.heap.size w' P m))∧Below w.heap.size w w':=by
 obtain ⟨kj,o,nj,c,sf,kp,ob,np,cb,oR,nr,cR,ot,nt,ct,oa,na,ca,om,nm,cm,og,ng,cg,ev,r1,r2,r3,r4,ea,em,eg⟩:=(h.rd.le hh).opn
 obtain ⟨f1,f2,f3,f4,f5⟩:=hf
 have HBL:Hid (∀W,Below w.heap.size w W→Calls Tryz.prog 101 #[Q5U kj (.slice o nj c) sf kp (.slice ob np cb) (.slice oR nr cR) (.slice ot nt ct)] W fun e w'=> ∃xo xn xc kq yo yn yc sq kr uo un uc vo vn vc,e=.returned (.tuple #[QdZ (.slice xo xn xc) kq (.slice yo yn yc) sq kr (.slice uo un uc) (.slice vo vn vc),.bool (Q9L m.bal)])∧((Q9L m.bal)=true→InBl W.heap.size w'.heap.size w' (QdZ (.slice xo xn xc) kq (.slice yo yn yc) sq kr (.slice uo un uc) (.slice vo vn vc)) m.bal.j (Q12 m.bal.j) m.bal.t)∧Below W.heap.size W w'):=fun W hb=> by
  obtain ⟨kj',vl,sf',kp',vb,vr,vt,va,vm,vg,b0,b1,a0,a1,m0,m1,g0,g1,e,k,i1,_⟩:=h
  rw [ev] at e
  simp only [Value.agg.injEq,Array.mk.injEq,List.cons.injEq,and_true,true_and,Value.int.injEq] at e
  obtain ⟨e1,e2,e3,e4,e5,e6,e7,_⟩:=e
  subst e1 e2 e3 e4 e5 e6 e7
  have h':=i1.step (Stp.of (lo:=0) (hi:=0) hb) (.inl (Kcq _))
  obtain ⟨o',c',ob',cb',oR',cR',ot',ct',e',q1,q2,q3,q4⟩:=Q6Z h' (Kdq (by omega) hb.size)
  rw [e']
  exact QaY m.bal.j.key o' _ c' m.bal.j.safe m.bal.p.key ob' _ cb' oR' _ cR' ot' _ ct' m.bal.j.l m.bal.p.l m.bal.p.ring m.bal.t W rfl rfl q1 q2 q3 q4 f1
 have HAG:Hid (∀W,Below w.heap.size w W→Calls Tryz.prog 102 #[.slice oa na ca] W fun e w'=> ∃o n c,e=.returned (.tuple #[.slice o n c,.bool (Qbs m.ags)])∧(Qbs m.ags=true→InE elG 140 W.heap.size w'.heap.size w' (.slice o n c) m.ags)∧Below W.heap.size W w'):=fun W hb=> Q6Q _ m.ags W (r2.on hb) (by omega) (fun i hi=> Qga f2 i hi)
 have HBG:Hid (∀W,Below w.heap.size w W→Calls Tryz.prog 103 #[.slice om nm cm,.int .i64 m.now] W fun e w'=> ∃o n c,e=.returned (.tuple #[.slice o n c,.bool (QbF m.now m.bag)])∧(QbF m.now m.bag=true→InE elM 96 W.heap.size w'.heap.size w' (.slice o n c) m.bag)∧Below W.heap.size W w'):=fun W hb=> by
  obtain ⟨kj',vl,sf',kp',vb,vr,vt,va,vm,vg,b0,b1,a0,a1,m0,m1,g0,g1,e,k,_,_,i3,_⟩:=h
  rw [ev] at e
  simp only [Value.agg.injEq,Array.mk.injEq,List.cons.injEq,and_true,true_and,Value.int.injEq] at e
  obtain ⟨_,_,_,_,_,_,_,_,e9,_⟩:=e
  subst e9
  exact QaE m0 m1 _ m.bag m.now W ((InE.stp _ _).go i3 (Stp.of (lo:=0) (hi:=0) hb) (.inl (Kcq _))) (Kdq (by omega) hb.size) (by omega) (fun i hi=> QgP f3 f5 i hi)
 have HGT:Hid (∀W,Below w.heap.size w W→Calls Tryz.prog 104 #[.slice og ng cg] W fun e w'=> ∃o n c,e=.returned (.tuple #[.slice o n c,.bool (Q4p m.got)])∧(Q4p m.got=true→InL Q0J 98 W.heap.size w'.heap.size w' (.slice o n c) m.got)∧Below W.heap.size W w'):=fun W hb=> by
  obtain ⟨kj',vl,sf',kp',vb,vr,vt,va,vm,vg,b0,b1,a0,a1,m0,m1,g0,g1,e,k,_,_,_,i4⟩:=h
  rw [ev] at e
  simp only [Value.agg.injEq,Array.mk.injEq,List.cons.injEq,and_true,true_and,Value.int.injEq] at e
  obtain ⟨_,_,_,_,_,_,_,_,_,e10⟩:=e
  subst e10
  exact Q9W _ m.got W ((r4.kept hb (Kaq _)).le hb.size) (InRow.cap i4) f4
 have HPT:=Q00 (QcQ m)
 subst ev
 clear r1 r2 r3 r4 ea em eg f1 f2 f3 f4 f5 h hh
 obtain ⟨now,hK⟩:∃q,m.now=q:=⟨_,rfl⟩
 obtain ⟨rst,hrst⟩:∃q,m.rst=q:=⟨_,rfl⟩
 obtain ⟨gone,hD⟩:∃q,m.gone=q:=⟨_,rfl⟩
 have HV:=Q00 (And.intro hK (And.intro hrst hD))
 rw [hK] at HBG
 rw [hK,hrst,hD] at HPT
 rw [hK,hrst,hD]
 clear hK hrst hD
 have HN:Hid (∀W,Calls Tryz.prog 99 #[.int .i64 now] W fun e w'=> e=.returned (.bool (QgQ now))∧W=w'):=fun W=> Qe6 now W
 have HR:Hid (∀W,Calls Tryz.prog 100 #[.int .i64 rst] W fun e w'=> e=.returned (.bool (Q5W rst))∧W=w'):=fun W=> Q69 rst W
 have HG:Hid (∀W,Calls Tryz.prog 100 #[.int .i64 gone] W fun e w'=> e=.returned (.bool (Q5W gone))∧W=w'):=fun W=> Q69 gone W
 obtain ⟨q1,hq1⟩:∃q,QgQ now=q:=⟨_,rfl⟩
 rw [hq1] at HN HPT
 clear hq1
 obtain ⟨q2,hq2⟩:∃q,Q5W rst=q:=⟨_,rfl⟩
 rw [hq2] at HR HPT
 clear hq2
 obtain ⟨q3,hq3⟩:∃q,Q5W gone=q:=⟨_,rfl⟩
 rw [hq3] at HG HPT
 clear hq3
 obtain ⟨q4,hq4⟩:∃q,Q9L m.bal=q:=⟨_,rfl⟩
 rw [hq4] at HBL HPT
 clear hq4
 obtain ⟨q5,hq5⟩:∃q,Qbs m.ags=q:=⟨_,rfl⟩
 rw [hq5] at HAG HPT
 clear hq5
 obtain ⟨q6,hq6⟩:∃q,QbF now m.bag=q:=⟨_,rfl⟩
 rw [hq6] at HBG HPT
 clear hq6
 obtain ⟨q7,hq7⟩:∃q,Q4p m.got=q:=⟨_,rfl⟩
 rw [hq7] at HGT HPT
 clear hq7
 have bx:=World.alloc_heap_new w (.cells #[.int .i64 now,.int .i64 kj,.slice o nj c,.int .i64 sf,.int .i64 kp,.slice ob np cb,.slice oR nr cR,.slice ot nt ct,.slice oa na ca,.slice om nm cm,.slice og ng cg,.int .i64 rst,.int .i64 gone] 56)
 have hb0:Below w.heap.size w (w.alloc (.cells #[.int .i64 now,.int .i64 kj,.slice o nj c,.int .i64 sf,.int .i64 kp,.slice ob np cb,.slice oR nr cR,.slice ot nt ct,.slice oa na ca,.slice om nm cm,.slice og ng cg,.int .i64 rst,.int .i64 gone] 56)):=(Below.refl _ _).alloc (Kaq _) _
 have hs0:w.heap.size < (w.alloc (.cells #[.int .i64 now,.int .i64 kj,.slice o nj c,.int .i64 sf,.int .i64 kp,.slice ob np cb,.slice oR nr cR,.slice ot nt ct,.slice oa na ca,.slice om nm cm,.slice og ng cg,.int .i64 rst,.int .i64 gone] 56)).heap.size:=by simp
 obtain ⟨z0,z1,z2,z3,z4,z5,z6,z7,z8,z9,z10,z11,z12,_⟩:=Q14 bx
 have HX:=Q00 bx
 have HB:=Q00 hb0
 have HS0:=Q00 hs0
 clear bx hb0 hs0
 go_enter Tryz.func49,Tryz.ntmps49
 go_wp2_with fail
 generalize (w.alloc (.cells #[.int .i64 now,.int .i64 kj,.slice o nj c,.int .i64 sf,.int .i64 kp,.slice ob np cb,.slice oR nr cR,.slice ot nt ct,.slice oa na ca,.slice om nm cm,.slice og ng cg,.int .i64 rst,.int .i64 gone] 56))=W0 at *
 refine (HN.out W0).mono ?_
 rintro e _ ⟨rfl,rfl⟩
 cases q1 with
 |false=>
  go_wp2
  refine bodyPost_ret (v:=.tuple #[.pointer none,.bool false]) (by simp [results,Tryz.results49,go_sem]) rfl ⟨.inl ⟨by rw [HPT.out];simp,rfl⟩,HB.out⟩
 |true=>
  go_wp2_with fail
  refine (HR.out W0).mono ?_
  rintro e _ ⟨rfl,rfl⟩
  cases q2 with
  |false=>
   go_wp2
   refine bodyPost_ret (v:=.tuple #[.pointer none,.bool false]) (by simp [results,Tryz.results49,go_sem]) rfl ⟨.inl ⟨by rw [HPT.out];simp,rfl⟩,HB.out⟩
  |true=>
   go_wp2_with fail
   refine (HG.out W0).mono ?_
   rintro e _ ⟨rfl,rfl⟩
   cases q3 with
   |false=>
    go_wp2
    refine bodyPost_ret (v:=.tuple #[.pointer none,.bool false]) (by simp [results,Tryz.results49,go_sem]) rfl ⟨.inl ⟨by rw [HPT.out];simp,rfl⟩,HB.out⟩
   |true=>
    go_wp2_with fail
    refine (HBL.out W0 HB.out).mono ?_
    rintro e w1 ⟨xo,xn,xc,kq,yo,yn,yc,sq,kr,uo,un,uc,vo,vn,vc,rfl,hi1,hb⟩
    have HI1:=Q00 hi1
    have s01:=hb.size
    have HX1:=Q00 (Q0u HX.out hb)
    have HB1:=Q00 (HB.out.trans (hb.mono HB.out.size))
    clear hi1 hb z0 z1 z2 z3 z4 z5 z6 z7 z8 z9 z10 z11 z12 HX HN HR HG HBL
    have by0:=World.alloc_heap_new w1 (.cells #[.slice xo xn xc,.int .i64 kq,.slice yo yn yc,.int .i64 sq,.int .i64 kr,.slice uo un uc,.slice vo vn vc] 132)
    have hb2:Below w1.heap.size w1 (w1.alloc (.cells #[.slice xo xn xc,.int .i64 kq,.slice yo yn yc,.int .i64 sq,.int .i64 kr,.slice uo un uc,.slice vo vn vc] 132)):=(Below.refl _ _).alloc (Kaq _) _
    have HX2:=Q00 (Q0u HX1.out hb2)
    have HB2:=Q00 (HB1.out.trans (hb2.mono HB1.out.size))
    have s12:w1.heap.size < (w1.alloc (.cells #[.slice xo xn xc,.int .i64 kq,.slice yo yn yc,.int .i64 sq,.int .i64 kr,.slice uo un uc,.slice vo vn vc] 132)).heap.size:=by simp
    obtain ⟨z0,z1,z2,z3,z4,z5,z6,z7,z8,z9,z10,z11,z12,_⟩:=Q14 HX2.out
    have y0:(w1.alloc (.cells #[.slice xo xn xc,.int .i64 kq,.slice yo yn yc,.int .i64 sq,.int .i64 kr,.slice uo un uc,.slice vo vn vc] 132)).cell? ⟨w1.heap.size,0,none⟩=some (.slice xo xn xc):=Q02 by0 0 _ rfl
    have y1:(w1.alloc (.cells #[.slice xo xn xc,.int .i64 kq,.slice yo yn yc,.int .i64 sq,.int .i64 kr,.slice uo un uc,.slice vo vn vc] 132)).cell? ⟨w1.heap.size,1,none⟩=some (.int .i64 kq):=Q02 by0 1 _ rfl
    have y2:(w1.alloc (.cells #[.slice xo xn xc,.int .i64 kq,.slice yo yn yc,.int .i64 sq,.int .i64 kr,.slice uo un uc,.slice vo vn vc] 132)).cell? ⟨w1.heap.size,2,none⟩=some (.slice yo yn yc):=Q02 by0 2 _ rfl
    have y3:(w1.alloc (.cells #[.slice xo xn xc,.int .i64 kq,.slice yo yn yc,.int .i64 sq,.int .i64 kr,.slice uo un uc,.slice vo vn vc] 132)).cell? ⟨w1.heap.size,3,none⟩=some (.int .i64 sq):=Q02 by0 3 _ rfl
    have y4:(w1.alloc (.cells #[.slice xo xn xc,.int .i64 kq,.slice yo yn yc,.int .i64 sq,.int .i64 kr,.slice uo un uc,.slice vo vn vc] 132)).cell? ⟨w1.heap.size,4,none⟩=some (.int .i64 kr):=Q02 by0 4 _ rfl
    have y5:(w1.alloc (.cells #[.slice xo xn xc,.int .i64 kq,.slice yo yn yc,.int .i64 sq,.int .i64 kr,.slice uo un uc,.slice vo vn vc] 132)).cell? ⟨w1.heap.size,5,none⟩=some (.slice uo un uc):=Q02 by0 5 _ rfl
    have y6:(w1.alloc (.cells #[.slice xo xn xc,.int .i64 kq,.slice yo yn yc,.int .i64 sq,.int .i64 kr,.slice uo un uc,.slice vo vn vc] 132)).cell? ⟨w1.heap.size,6,none⟩=some (.slice vo vn vc):=Q02 by0 6 _ rfl
    have HY:=Q00 by0
    have HT2:=Q00 hb2
    clear by0 hb2
    go_wp2_with fail
    generalize (w1.alloc (.cells #[.slice xo xn xc,.int .i64 kq,.slice yo yn yc,.int .i64 sq,.int .i64 kr,.slice uo un uc,.slice vo vn vc] 132))=w2 at *
    clear z0 z1 z2 z3 z4 z5 z6 z7 z8 z9 z10 z11 z12 y0 y1 y2 y3 y4 y5 y6
    refine (HAG.out w2 HB2.out).mono ?_
    rintro e w3 ⟨pa,la,da,rfl,hi3,hb⟩
    have HI3:=Q00 hi3
    have s23:=hb.size
    have HX3:=Q00 (Q0u HX2.out hb)
    have HB3:=Q00 (HB2.out.trans (hb.mono HB2.out.size))
    have HT3:=Q00 (HT2.out.trans (hb.mono HT2.out.size))
    have by0:=Q0u HY.out hb
    have HZ3:=Q00 hb
    clear hi3 hb HX2 HB2 HT2 HY HAG
    obtain ⟨z0,z1,z2,z3,z4,z5,z6,z7,z8,z9,z10,z11,z12,_⟩:=Q14 HX3.out
    have y0:w3.cell? ⟨w1.heap.size,0,none⟩=some (.slice xo xn xc):=Q02 by0 0 _ rfl
    have y1:w3.cell? ⟨w1.heap.size,1,none⟩=some (.int .i64 kq):=Q02 by0 1 _ rfl
    have y2:w3.cell? ⟨w1.heap.size,2,none⟩=some (.slice yo yn yc):=Q02 by0 2 _ rfl
    have y3:w3.cell? ⟨w1.heap.size,3,none⟩=some (.int .i64 sq):=Q02 by0 3 _ rfl
    have y4:w3.cell? ⟨w1.heap.size,4,none⟩=some (.int .i64 kr):=Q02 by0 4 _ rfl
    have y5:w3.cell? ⟨w1.heap.size,5,none⟩=some (.slice uo un uc):=Q02 by0 5 _ rfl
    have y6:w3.cell? ⟨w1.heap.size,6,none⟩=some (.slice vo vn vc):=Q02 by0 6 _ rfl
    have HY:=Q00 by0
    clear by0
    go_wp2_with fail
    clear z0 z1 z2 z3 z4 z5 z6 z7 z8 z9 z10 z11 z12 y0 y1 y2 y3 y4 y5 y6
    refine (HBG.out w3 HB3.out).mono ?_
    rintro e w4 ⟨pm,lm,dm,rfl,hi4,hb⟩
    have HI4:=Q00 hi4
    have s34:=hb.size
    have HX4:=Q00 (Q0u HX3.out hb)
    have HB4:=Q00 (HB3.out.trans (hb.mono HB3.out.size))
    have HT4:=Q00 (HT3.out.trans (hb.mono HT3.out.size))
    have by0:=Q0u HY.out hb
    have HZ4:=Q00 hb
    clear hi4 hb HX3 HB3 HT3 HY HBG
    obtain ⟨z0,z1,z2,z3,z4,z5,z6,z7,z8,z9,z10,z11,z12,_⟩:=Q14 HX4.out
    have y0:w4.cell? ⟨w1.heap.size,0,none⟩=some (.slice xo xn xc):=Q02 by0 0 _ rfl
    have y1:w4.cell? ⟨w1.heap.size,1,none⟩=some (.int .i64 kq):=Q02 by0 1 _ rfl
    have y2:w4.cell? ⟨w1.heap.size,2,none⟩=some (.slice yo yn yc):=Q02 by0 2 _ rfl
    have y3:w4.cell? ⟨w1.heap.size,3,none⟩=some (.int .i64 sq):=Q02 by0 3 _ rfl
    have y4:w4.cell? ⟨w1.heap.size,4,none⟩=some (.int .i64 kr):=Q02 by0 4 _ rfl
    have y5:w4.cell? ⟨w1.heap.size,5,none⟩=some (.slice uo un uc):=Q02 by0 5 _ rfl
    have y6:w4.cell? ⟨w1.heap.size,6,none⟩=some (.slice vo vn vc):=Q02 by0 6 _ rfl
    have HY:=Q00 by0
    clear by0
    go_wp2_with fail
    clear z0 z1 z2 z3 z4 z5 z6 z7 z8 z9 z10 z11 z12 y0 y1 y2 y3 y4 y5 y6
    refine (HGT.out w4 HB4.out).mono ?_
    rintro e w5 ⟨pg,lg,dg,rfl,hi5,hb⟩
    have HI5:=Q00 hi5
    have s45:=hb.size
    have HX5:=Q00 (Q0u HX4.out hb)
    have HB5:=Q00 (HB4.out.trans (hb.mono HB4.out.size))
    have HT5:=Q00 (HT4.out.trans (hb.mono HT4.out.size))
    have by0:=Q0u HY.out hb
    have HZ5:=Q00 hb
    clear hi5 hb HX4 HB4 HT4 HY HGT
    obtain ⟨z0,z1,z2,z3,z4,z5,z6,z7,z8,z9,z10,z11,z12,_⟩:=Q14 HX5.out
    have y0:w5.cell? ⟨w1.heap.size,0,none⟩=some (.slice xo xn xc):=Q02 by0 0 _ rfl
    have y1:w5.cell? ⟨w1.heap.size,1,none⟩=some (.int .i64 kq):=Q02 by0 1 _ rfl
    have y2:w5.cell? ⟨w1.heap.size,2,none⟩=some (.slice yo yn yc):=Q02 by0 2 _ rfl
    have y3:w5.cell? ⟨w1.heap.size,3,none⟩=some (.int .i64 sq):=Q02 by0 3 _ rfl
    have y4:w5.cell? ⟨w1.heap.size,4,none⟩=some (.int .i64 kr):=Q02 by0 4 _ rfl
    have y5:w5.cell? ⟨w1.heap.size,5,none⟩=some (.slice uo un uc):=Q02 by0 5 _ rfl
    have y6:w5.cell? ⟨w1.heap.size,6,none⟩=some (.slice vo vn vc):=Q02 by0 6 _ rfl
    have HY:=Q00 by0
    clear by0
    replace HB:=HB5
    cases q4 with
    |false=>
     go_wp2
     refine bodyPost_ret (v:=.tuple #[.pointer none,.bool false]) (by simp [results,Tryz.results49,go_sem]) rfl ⟨.inl ⟨by rw [HPT.out];simp,rfl⟩,HB.out⟩
    |true=>
     cases q5 with
     |false=>
      go_wp2
      refine bodyPost_ret (v:=.tuple #[.pointer none,.bool false]) (by simp [results,Tryz.results49,go_sem]) rfl ⟨.inl ⟨by rw [HPT.out];simp,rfl⟩,HB.out⟩
     |true=>
      cases q6 with
      |false=>
       go_wp2
       refine bodyPost_ret (v:=.tuple #[.pointer none,.bool false]) (by simp [results,Tryz.results49,go_sem]) rfl ⟨.inl ⟨by rw [HPT.out];simp,rfl⟩,HB.out⟩
      |true=>
       cases q7 with
       |false=>
        go_wp2
        refine bodyPost_ret (v:=.tuple #[.pointer none,.bool false]) (by simp [results,Tryz.results49,go_sem]) rfl ⟨.inl ⟨by rw [HPT.out];simp,rfl⟩,HB.out⟩
       |true=>
        have bz:=World.alloc_heap_new w5 (.cells #[.int .i64 now,.slice xo xn xc,.int .i64 kq,.slice yo yn yc,.int .i64 sq,.int .i64 kr,.slice uo un uc,.slice vo vn vc,.slice pa la da,.slice pm lm dm,.slice pg lg dg,.int .i64 rst,.int .i64 gone] 135)
        have hb6:Below w5.heap.size w5 (w5.alloc (.cells #[.int .i64 now,.slice xo xn xc,.int .i64 kq,.slice yo yn yc,.int .i64 sq,.int .i64 kr,.slice uo un uc,.slice vo vn vc,.slice pa la da,.slice pm lm dm,.slice pg lg dg,.int .i64 rst,.int .i64 gone] 135)):=(Below.refl _ _).alloc (Kaq _) _
        have s56:(w5.alloc (.cells #[.int .i64 now,.slice xo xn xc,.int .i64 kq,.slice yo yn yc,.int .i64 sq,.int .i64 kr,.slice uo un uc,.slice vo vn vc,.slice pa la da,.slice pm lm dm,.slice pg lg dg,.int .i64 rst,.int .i64 gone] 135)).heap.size=w5.heap.size+1:=by simp
        have HBZ:=Q00 bz
        have HB6:=Q00 (HB.out.trans (hb6.mono HB.out.size))
        have HT6:=Q00 hb6
        have HS6:=Q00 s56
        clear bz hb6 s56
        go_wp2
        refine bodyPost_ret (v:=.tuple #[.pointer (some ⟨w5.heap.size,0,none⟩),.bool true]) (by simp [results,Tryz.results49,go_sem]) rfl ⟨.inr ⟨by rw [HPT.out];rfl,w5.heap.size,rfl, ?_⟩,HB6.out⟩
        generalize (w5.alloc (.cells #[.int .i64 now,.slice xo xn xc,.int .i64 kq,.slice yo yn yc,.int .i64 sq,.int .i64 kr,.slice uo un uc,.slice vo vn vc,.slice pa la da,.slice pm lm dm,.slice pg lg dg,.int .i64 rst,.int .i64 gone] 135))=w6 at *
        have hs6:=HS6.out
        have hs0:=HS0.out
        have t35:=HZ4.out.trans (HZ5.out.mono HZ4.out.size)
        have t36:=t35.trans (HT6.out.mono t35.size)
        have t46:=HZ5.out.trans (HT6.out.mono HZ5.out.size)
        have t16:=HT5.out.trans (HT6.out.mono HT5.out.size)
        exact ⟨xo,xn,xc,kq,yo,yn,yc,sq,kr,uo,un,uc,vo,vn,vc,pa,la,da,pm,lm,dm,pg,lg,dg,W0.heap.size,w1.heap.size,w2.heap.size,w3.heap.size,w3.heap.size,w4.heap.size,w4.heap.size,w5.heap.size,by rw [HV.out.1,HV.out.2.1,HV.out.2.2];exact HBZ.out,by omega,(HI1.out (by trivial)).step (Stp.of (lo:=0) (hi:=0) t16) (.inl (Kcq _)),(InE.stp _ _).go (HI3.out (by trivial)) (Stp.of (lo:=0) (hi:=0) t36) (.inl (Kcq _)),(InE.stp _ _).go (HI4.out (by trivial)) (Stp.of (lo:=0) (hi:=0) t46) (.inl (Kcq _)),InRow.step (HI5.out (by trivial)) (Stp.of (lo:=0) (hi:=0) HT6.out) (.inl (Kcq _))⟩
theorem Qhc (w:World) (x:Int):RdL Q1q (w.alloc (.cells #[.int .i64 x] 3)).heap.size (w.alloc (.cells #[.int .i64 x] 3)) (some ⟨w.heap.size,0,none⟩) [x]:=by
 refine .inr ⟨w.heap.size,0,rfl,by simp,fun i hi j hj=> ?_⟩
 have hi0:i=0:=by simpa using hi
 have hj0:j=0:=by have:j < 1:=hj;omega
 subst hi0 hj0
 have:=World.alloc_heap_new w (.cells #[.int .i64 x] 3)
 simp [Q1q]
theorem Q4s {m:Km} (h:okK m=true):m.ags.length=6∧∀i,i < m.ags.length→Q0O (m.ags.getD i amD)=true∧(m.ags.getD i amD).id=(i:Int):=by
 unfold okK at h
 simp only [Bool.and_eq_true] at h
 have h1:=Q5z.1 h.1.1.1
 refine ⟨h1.2.2.2.1,fun i hi=> ?_⟩
 have h2:=List.all_eq_true.1 h.1.1.2 i (List.mem_range.2 hi)
 unfold agF at h2
 simpa using h2
theorem Q8R {m:Am} (h:Q0O m=true):0 < m.c.length∧0 < m.t.length∧m.c.length≤16∧m.t.length≤16:=by
 have h1:=Q1p.1 h
 have h2:=Q0Y.1 h1.2.2.2.2.1
 have h3:=Q0Y.1 h1.2.2.2.2.2.1
 omega
theorem InE.agent {lo hi:Nat} {w:World} {o:Option Addr} {n c:Nat} {xs:List Am} (h:InE elG 140 lo hi w (.slice o n c) xs) (i:Nat) (hi':i < xs.length) {m:Am} (hm:xs.getD i amD=m):
  ∃b off g1 g2,o=some ⟨b,off,none⟩∧b < hi∧w.cell? ⟨b,off+i * 5,none⟩=some (.slice (some ⟨g1,0,none⟩) m.c.length m.c.length)∧w.cell? ⟨b,off+i * 5+1,none⟩=some (.slice (some ⟨g2,0,none⟩) m.t.length m.t.length)∧w.cell? ⟨b,off+i * 5+2,none⟩=some (.int .i64 m.id)∧w.cell? ⟨b,off+i * 5+3,none⟩=some (.int .i64 m.lim)∧w.cell? ⟨b,off+i * 5+4,none⟩=some (.bool m.dr)∧RdL Q0w hi w (some ⟨g1,0,none⟩) m.c∧RdL Q0w hi w (some ⟨g2,0,none⟩) m.t:=by
 obtain ⟨b,off,y,l1,h1,rfl,hb,hc,k1,k2,hr⟩:=h.at i hi'
 rw [show xs.getD i elG.d=m from hm] at hr
 obtain ⟨g1,g2,mid,e,i1,i2,kk1,kk2⟩:=hr
 have e':Value.agg #[.slice y.c.1 y.c.2.1 y.c.2.2,.slice y.t.1 y.t.2.1 y.t.2.2,.int .i64 y.id,.int .i64 y.lim,.bool y.dr]=Value.agg #[.slice (some ⟨g1,0,none⟩) m.c.length m.c.length,.slice (some ⟨g2,0,none⟩) m.t.length m.t.length,.int .i64 m.id,.int .i64 m.lim,.bool m.dr]:=e
 simp only [Value.agg.injEq,Array.mk.injEq,List.cons.injEq,and_true] at e'
 obtain ⟨e0,e1,e2,e3,e4⟩:=e'
 have h0:w.cell? ⟨b,off+i * 5,none⟩=some _:=hc 0 (by decide)
 rw [e0] at h0
 have h1:w.cell? ⟨b,off+i * 5+1,none⟩=some _:=hc 1 (by decide)
 rw [e1] at h1
 have h2:w.cell? ⟨b,off+i * 5+2,none⟩=some _:=hc 2 (by decide)
 rw [e2] at h2
 have h3:w.cell? ⟨b,off+i * 5+3,none⟩=some _:=hc 3 (by decide)
 rw [e3] at h3
 have h4:w.cell? ⟨b,off+i * 5+4,none⟩=some _:=hc 4 (by decide)
 rw [e4] at h4
 obtain ⟨o5,c5,e5,r1⟩:=InL.rd (L:=Q0w) i1
 obtain ⟨o6,c6,e6,r2⟩:=InL.rd (L:=Q0w) i2
 injection e5 with x5
 injection e6 with x6
 subst x5 x6
 exact ⟨b,off,g1,g2,rfl,hb,h0,h1,h2,h3,h4,r1.le (by omega),r2.le (by omega)⟩
theorem Q7G {W w8:World} {base s n:Nat} {e T:TypeId} {v:Value} {xs:List Value} {B:Nat} {c:Array Value} {ob:Obj} (h:W.heap[B]? =some (.cells c T (0,0))) (hg:(W.alloc ob).grownBy w8 v.ownBlock) (ho:(W.alloc ob).ownsRow base e s v n xs) (he:e≠T):w8.heap[B]? =some (.cells c T (0,0)):=by
 have h1:=Q0u h ((Below.refl W.heap.size W).alloc (Kaq _) ob)
 refine (hg.block B (Qcp h1) (fun e'=> ?_)).trans h1
 rcases Q7y ho h1 he with q|q
 ·rw [q] at e';cases e'
 ·exact q e'.symm
def Q27 (xs:List Am) (a p:Int):Nat→List Int
 |0=> []
 |k+1=> if (Q2w (xs.getD k amD).c a p).2 then Q27 xs a p k++[(k:Int)] else Q27 xs a p k
theorem Q2v (xs:List Am) (a p:Int):∀k,(Q27 xs a p k).length≤k
 |0=> Kaq _
 |k+1=> by
  have:=Q2v xs a p k
  unfold Q27
  split <;> simp <;> omega
def Qeb (m:Km) (a p:Int):List Int:=if okK m && Q0h a p then Q27 m.ags a p m.ags.length else []
theorem QeI (m:Km) (a p:Int):(Qeb m a p).length≤6:=by
 unfold Qeb
 split
 ·rename_i h
  rw [Bool.and_eq_true] at h
  have:=Q2v m.ags a p m.ags.length
  have:=(Q4s h.1).1
  omega
 ·simp
theorem Q7T (lo hi:Nat) (v:Value) (m:Km) (a p:Int) (w:World) (h:InKm lo hi w v m) (hh:hi≤w.heap.size) (hf:Q6y m):
  Calls Tryz.prog 29 #[v,Q6O a p] w fun e w'=> ∃v',e=.returned v'∧InL Q1q 3 w.heap.size w'.heap.size w' v' (Qeb m a p)∧Below w.heap.size w w':=by
 obtain ⟨kj,o,nj,c,sf,kp,ob,np,cb,oR,nr,cR,ot,nt,ct,oa,na,ca,om,nm,cm,og,ng,cg,ev,r1,r2,r3,r4,ea,em,eg⟩:=(h.rd.le hh).opn
 have HC:=Q00 (fun W (hb:Below w.heap.size w W)=> Q58 lo hi v m W (h.step (Stp.of (lo:=0) (hi:=0) hb) (.inl (Kcq _))) (Kdq hh hb.size) hf)
 have HRD:=Q00 r2
 have HN:=Q00 ea.symm
 have HFT:=Q00 (fun i (hi:i < m.ags.length)=> Qga hf.2.1 i hi)
 have HALL:Hid (okK m=true→na=6∧∀i,i < na→Q0O (m.ags.getD i amD)=true∧(m.ags.getD i amD).id=(i:Int)):=by rw [ea];exact Q4s
 have HOM:Hid (Qeb m a p=if okK m && Q0h a p then Q27 m.ags a p na else []):=by unfold Hid Qeb;rw [ea]
 subst ev
 clear r1 r2 r3 r4 ea em eg h hh hf
 obtain ⟨now,hK⟩:∃q,m.now=q:=⟨_,rfl⟩
 obtain ⟨rst,hrst⟩:∃q,m.rst=q:=⟨_,rfl⟩
 obtain ⟨gone,hD⟩:∃q,m.gone=q:=⟨_,rfl⟩
 rw [hK,hrst,hD] at HC ⊢
 clear hK hrst hD
 obtain ⟨n,hn⟩:∃q,na=q:=⟨_,rfl⟩
 rw [hn] at HC HOM HALL HRD HN ⊢
 clear hn na
 obtain ⟨t,ht⟩:∃q,okK m=q:=⟨_,rfl⟩
 rw [ht] at HC HOM HALL
 clear ht
 obtain ⟨f,hfl⟩:∃q,Q0h a p=q:=⟨_,rfl⟩
 have HFL:=Q00 hfl
 rw [hfl] at HOM
 have HFC:Hid (∀W,Calls Tryz.prog 44 #[Q6O a p] W fun e w'=> e=.returned (.bool f)∧Below W.heap.size W w'):=fun W=> by rw [←hfl];exact Q0r a p W
 clear hfl
 have bx:=Q0u (World.alloc_heap_new w (.cells #[.int .i64 now,.int .i64 kj,.slice o nj c,.int .i64 sf,.int .i64 kp,.slice ob np cb,.slice oR nr cR,.slice ot nt ct,.slice oa n ca,.slice om nm cm,.slice og ng cg,.int .i64 rst,.int .i64 gone] 56)) ((Below.refl _ _).alloc (Kaq _) (.cells #[.int .i64 a,.int .i64 p] 75))
 have bf:=World.alloc_heap_new (w.alloc (.cells #[.int .i64 now,.int .i64 kj,.slice o nj c,.int .i64 sf,.int .i64 kp,.slice ob np cb,.slice oR nr cR,.slice ot nt ct,.slice oa n ca,.slice om nm cm,.slice og ng cg,.int .i64 rst,.int .i64 gone] 56)) (.cells #[.int .i64 a,.int .i64 p] 75)
 have hb0:Below w.heap.size w ((w.alloc (.cells #[.int .i64 now,.int .i64 kj,.slice o nj c,.int .i64 sf,.int .i64 kp,.slice ob np cb,.slice oR nr cR,.slice ot nt ct,.slice oa n ca,.slice om nm cm,.slice og ng cg,.int .i64 rst,.int .i64 gone] 56)).alloc (.cells #[.int .i64 a,.int .i64 p] 75)):=((Below.refl _ _).alloc (Kaq _) _).alloc (by simp) _
 rw [show (w.alloc (.cells #[.int .i64 now,.int .i64 kj,.slice o nj c,.int .i64 sf,.int .i64 kp,.slice ob np cb,.slice oR nr cR,.slice ot nt ct,.slice oa n ca,.slice om nm cm,.slice og ng cg,.int .i64 rst,.int .i64 gone] 56)).heap.size=w.heap.size+1 by simp] at bf
 obtain ⟨z0,z1,z2,z3,z4,z5,z6,z7,z8,z9,z10,z11,z12,_⟩:=Q14 bx
 have f0:=Q02 bf 0 _ rfl
 have f1:=Q02 bf 1 _ rfl
 have HB:=Q00 hb0
 have HX:=Q00 bx
 have HF:=Q00 bf
 clear bx bf hb0
 go_enter Tryz.func29,Tryz.ntmps29
 go_wp2_with fail
 generalize ((w.alloc (.cells #[.int .i64 now,.int .i64 kj,.slice o nj c,.int .i64 sf,.int .i64 kp,.slice ob np cb,.slice oR nr cR,.slice ot nt ct,.slice oa n ca,.slice om nm cm,.slice og ng cg,.int .i64 rst,.int .i64 gone] 56)).alloc (.cells #[.int .i64 a,.int .i64 p] 75))=W0 at *
 refine (HC.out W0 HB.out).mono ?_
 rintro e w1 ⟨rfl,hb⟩
 have HB1:=Q00 (HB.out.trans (hb.mono HB.out.size))
 have HX1:=Q00 (Q0u HX.out hb)
 have HF1:=Q00 (Q0u HF.out hb)
 clear hb z0 z1 z2 z3 z4 z5 z6 z7 z8 z9 z10 z11 z12 f0 f1 HX HB HC HF
 obtain ⟨z0,z1,z2,z3,z4,z5,z6,z7,z8,z9,z10,z11,z12,_⟩:=Q14 HX1.out
 have f0:=Q02 HF1.out 0 _ rfl
 have f1:=Q02 HF1.out 1 _ rfl
 cases t with
 |false=>
  go_wp2
  refine bodyPost_ret (v:=.slice none 0 0) (by simp [results,Tryz.results29,go_sem]) rfl ⟨_,rfl,by rw [HOM.out];exact ⟨World.ownsRow_nil _ _ _ _,fun b e=> by cases e⟩,HB1.out⟩
 |true=>
 have hall:=HALL.out rfl
 have HAL:=Q00 hall.2
 have HN6:=Q00 hall.1
 clear hall HALL
 go_wp2_with fail
 refine (HFC.out w1).mono ?_
 rintro e w2 ⟨rfl,hb⟩
 have HB2:=Q00 (HB1.out.trans (hb.mono HB1.out.size))
 have HX2:=Q00 (Q0u HX1.out hb)
 have HF2:=Q00 (Q0u HF1.out hb)
 clear hb z0 z1 z2 z3 z4 z5 z6 z7 z8 z9 z10 z11 z12 f0 f1 HX1 HB1 HF1 HFC
 cases f with
 |false=>
  go_wp2
  refine bodyPost_ret (v:=.slice none 0 0) (by simp [results,Tryz.results29,go_sem]) rfl ⟨_,rfl,by rw [HOM.out];exact ⟨World.ownsRow_nil _ _ _ _,fun b e=> by cases e⟩,HB2.out⟩
 |true=>
 go_wp2
 go_loopw [5,6] (fun ov iv wr=> ∃(k:Nat) (oQ:Option Addr) (nQ cQ:Nat),k≤n∧iv=.int .i64 (k:Int)∧ov=.slice oQ nQ cQ∧Hid (nQ=(Q27 m.ags a p k).length)∧Hid (ownL Q1q 3 wr w.heap.size (.slice oQ nQ cQ) (Q27 m.ags a p k))∧Hid (Below w.heap.size w wr)∧Hid (wr.heap[w.heap.size]? =some (.cells #[.int .i64 now,.int .i64 kj,.slice o nj c,.int .i64 sf,.int .i64 kp,.slice ob np cb,.slice oR nr cR,.slice ot nt ct,.slice oa n ca,.slice om nm cm,.slice og ng cg,.int .i64 rst,.int .i64 gone] 56 (0,0)))∧Hid (wr.heap[w.heap.size+1]? =some (.cells #[.int .i64 a,.int .i64 p] 75 (0,0))))
  (fun _ iv _=> n - (intOf iv).toNat)
 case atStart=> exact ⟨0,none,0,0,Kcq _,rfl,rfl,rfl,World.ownsRow_nil _ _ _ _,HB2.out,HX2.out,HF2.out⟩
 case round=>
  obtain ⟨k,oQ,nQ,cQ,hk8,rfl,rfl,HNQ,HO,HT,HXr,HFr⟩:=hrel
  obtain ⟨z0,z1,z2,z3,z4,z5,z6,z7,z8,z9,z10,z11,z12,_⟩:=Q14 HXr.out
  have f0:wr.cell? ⟨w.heap.size+1,0,none⟩=some (.int .i64 a):=Q02 HFr.out 0 _ rfl
  have f1:wr.cell? ⟨w.heap.size+1,1,none⟩=some (.int .i64 p):=Q02 HFr.out 1 _ rfl
  by_cases hlt:k < n
  ·have z:(k:Int) < (n:Int):=by omega
   obtain ⟨mk,hm⟩:∃q,m.ags.getD k amD=q:=⟨_,rfl⟩
   have hok:=HAL.out k hlt
   have hft:=HFT.out k (by rw [HN.out];exact hlt)
   rw [hm] at hok hft
   have hpos:=Q8R hok.1
   have hnq:=HNQ.out
   have hql:nQ≤n:=by have:=Q2v m.ags a p k;omega
   have h6:n≤6:=Nat.le_of_eq HN6.out
   obtain ⟨b,off,o1,c1,o2,c2,rfl,hbl,p0,p1,p2,p3,p4,rr,ri,_⟩:=RiA.cells HRD.out k (by rw [HN.out];exact hlt) hm
   replace p0:=bCA HT.out p0 hbl
   replace p1:=bCA HT.out p1 hbl
   replace p2:=bCA HT.out p2 hbl
   replace p3:=bCA HT.out p3 hbl
   replace p4:=bCA HT.out p4 hbl
   have HY:=Q00 (show Q27 m.ags a p (k+1)=if (Q2w mk.c a p).2 then Q27 m.ags a p k++[(k:Int)] else Q27 m.ags a p k by rw [←hm];rfl)
   have HL:=Q00 (fun W (hb:Below wr.heap.size wr W)=> Qac _ mk a p W (rr.on (HT.out.trans (hb.mono HT.out.size))) hpos.1 HFL.out hft)
   obtain ⟨B,hB⟩:∃q,(Q2w mk.c a p).2=q:=⟨_,rfl⟩
   rw [hB] at HL HY
   clear hok hft hm rr ri hpos hB hnq
   obtain ⟨q1,hq1⟩:∃q,mk.c.length=q:=⟨_,rfl⟩
   obtain ⟨q2,hq2⟩:∃q,mk.t.length=q:=⟨_,rfl⟩
   rw [hq1,hq2] at HL
   rw [hq1] at p3
   rw [hq2] at p4
   clear hq1 hq2
   have hbw:b < wr.heap.size:=Kbq hbl HT.out.size
   have d0:wr.drew.cell? ⟨w.heap.size,8,none⟩=some (.slice (some ⟨b,off,none⟩) n ca):=z8
   have d1:wr.drew.cell? ⟨b,off+k * 5,none⟩=some (.int .i64 mk.id):=p0
   have d2:wr.drew.cell? ⟨b,off+k * 5+1,none⟩=some (.int .i64 mk.lim):=p1
   have d3:wr.drew.cell? ⟨b,off+k * 5+2,none⟩=some (.bool mk.dr):=p2
   have d4:wr.drew.cell? ⟨b,off+k * 5+3,none⟩=some (.slice o1 q1 c1):=p3
   have d5:wr.drew.cell? ⟨b,off+k * 5+4,none⟩=some (.slice o2 q2 c2):=p4
   have d6:wr.drew.cell? ⟨w.heap.size+1,0,none⟩=some (.int .i64 a):=f0
   have d7:wr.drew.cell? ⟨w.heap.size+1,1,none⟩=some (.int .i64 p):=f1
   go_upto_region 7 with fail
   go_region_held3 (fun w'=> w'.cell? ⟨w.heap.size,8,none⟩=some (.slice (some ⟨b,off,none⟩) n ca)∧w'.cell? ⟨b,off+k * 5,none⟩=some (.int .i64 mk.id)∧w'.cell? ⟨b,off+k * 5+1,none⟩=some (.int .i64 mk.lim)∧w'.cell? ⟨b,off+k * 5+2,none⟩=some (.bool mk.dr)∧w'.cell? ⟨b,off+k * 5+3,none⟩=some (.slice o1 q1 c1)∧w'.cell? ⟨b,off+k * 5+4,none⟩=some (.slice o2 q2 c2)∧w'.cell? ⟨w.heap.size+1,0,none⟩=some (.int .i64 a)∧w'.cell? ⟨w.heap.size+1,1,none⟩=some (.int .i64 p)) (first|with_reducible exact ⟨k0,k1,k2,k3,k4,k5,k6,k7⟩|with_reducible exact ⟨d0,d1,d2,d3,d4,d5,d6,d7⟩) (first|(go_at_call 76;refine (HL.out _ (Below.drew (Below.refl _ _))).mono ?_;rintro e w2 ⟨rfl,hb⟩;replace hb:Below wr.heap.size wr w2:=(Below.drew (Below.refl _ _)).trans hb;have k0:=(hb.cell (p:=⟨w.heap.size,8,none⟩) (Qcp HXr.out)).trans z8;have k1:=(hb.cell (p:=⟨b,off+k * 5,none⟩) hbw).trans p0;have k2:=(hb.cell (p:=⟨b,off+k * 5+1,none⟩) hbw).trans p1;have k3:=(hb.cell (p:=⟨b,off+k * 5+2,none⟩) hbw).trans p2;have k4:=(hb.cell (p:=⟨b,off+k * 5+3,none⟩) hbw).trans p3;have k5:=(hb.cell (p:=⟨b,off+k * 5+4,none⟩) hbw).trans p4;have k6:=(hb.cell (p:=⟨w.heap.size+1,0,none⟩) (Qcp HFr.out)).trans f0;have k7:=(hb.cell (p:=⟨w.heap.size+1,1,none⟩) (Qcp HFr.out)).trans f1))
   have HBE:=Q00 (HT.out.trans (hb.mono HT.out.size))
   have HXE:=Q00 (Q0u HXr.out hb)
   have HFE:=Q00 (Q0u HFr.out hb)
   have HOE:=Q00 (Q0b HO.out hb)
   clear hb z0 z1 z2 z3 z4 z5 z6 z7 z8 z9 z10 z11 z12 f0 f1 p0 p1 p2 p3 p4 k0 d0 k1 d1 k2 d2 k3 d3 k4 d4 k5 d5 k6 d6 k7 d7
   cases B with
   |false=>
    go_wp2
    go_roundw
    case rel=> first
     |exact ⟨k+1,oQ,nQ,cQ,by omega,by go_num,rfl,by rw [HY.out];exact HNQ.out,by rw [HY.out];exact HOE.out,HBE.out,HXE.out,HFE.out⟩
     |(refine ⟨_, ?_,rfl⟩;exact ⟨k+1,oQ,nQ,cQ,by omega,by go_num,rfl,by rw [HY.out];exact HNQ.out,by rw [HY.out];exact HOE.out,HBE.out,HXE.out,HFE.out⟩)
    case measure=> simp [intOf];omega
   |true=>
    have FO:=Q00 (World.ownsRow.alloc HOE.out (.cells #[.int .i64 (k:Int)] 3))
    go_wp2_with (at_builtin;refine Q0c QgC rfl _ _ rfl w.heap.size _ (Q27 m.ags a p k) rfl FO.out (some ⟨w2.heap.size,0,none⟩) 1 _ [(k:Int)] 1 rfl rfl (fun h=> by cases h) (Qhc w2 (k:Int)) ?e2 ?e3 ?_)
    case e2=> have:=Q2v m.ags a p k;simp;omega
    case e3=> exact Kdq HBE.out.size (by simp)
    intro v8 w8 hv8 hg8 _
    have hl8:(Q27 m.ags a p k++[(k:Int)]).length=nQ+1:=by have:=HNQ.out;simp;omega
    obtain ⟨o8,c8,e8,_⟩:=InL.rd (L:=Q1q) (InRow.of hv8)
    rw [hl8] at e8
    subst e8
    have HV8:=Q00 hv8
    have HL8:=Q00 hl8.symm
    have hgt:∀q,(Value.slice oQ nQ cQ).ownBlock=some q→w.heap.size≤q:=fun q h=> (FO.out.lt q h).1
    have HB8:=Q00 ((HBE.out.alloc HBE.out.size _).grown hg8 (Kdq HBE.out.size (by simp)) hgt)
    have HX8:=Q00 (Q7G HXE.out hg8 FO.out (by decide))
    have HF8:=Q00 (Q7G HFE.out hg8 FO.out (by decide))
    clear hv8 hg8 hl8
    go_wp2
    go_roundw
    case rel=> first
     |exact ⟨k+1,o8,nQ+1,c8,by omega,by go_num,rfl,by rw [HY.out];exact HL8.out,by rw [HY.out];exact HV8.out,HB8.out,HX8.out,HF8.out⟩
     |(refine ⟨_, ?_,rfl⟩;exact ⟨k+1,o8,nQ+1,c8,by omega,by go_num,rfl,by rw [HY.out];exact HL8.out,by rw [HY.out];exact HV8.out,HB8.out,HX8.out,HF8.out⟩)
    case measure=> simp [intOf];omega
  ·have ek:k=n:=by omega
   subst ek
   go_wp2
   refine bodyPost_ret (v:=.slice oQ nQ cQ) (by simp [results,Tryz.results29,go_sem]) rfl ⟨_,rfl,by rw [HOM.out];exact InRow.of HO.out,HT.out⟩
theorem Qc9 (lo hi P:Nat) (m:Km) (a p:Int) (w:World) (h:InKl lo hi w P m) (hh:hi≤w.heap.size) (hk:okK m=true) (hfl:Q0h a p=true) (hf:Q6y m):
  Calls Tryz.prog 78 #[.pointer (some ⟨P,0,none⟩),Q6O a p] w fun e w'=> ∃v',e=.returned v'∧InL Q1q 3 w.heap.size w'.heap.size w' v' (Q27 m.ags a p m.ags.length)∧Below w.heap.size w w':=by
 obtain ⟨xo,xn,xc,kq,yo,yn,yc,sq,kr,uo,un,uc,vo,vn,vc,pa,la,da,pm,lm,dm,pg,lg,dg,b0,b1,a0,a1,m0,m1,g0,g1,bx,kk,_,h3,_,_⟩:=h
 have hla:la=m.ags.length:=by
  obtain ⟨o',c',e'⟩:=h3.ri.len
  injection e' with _ e2 _
 have hall:=Q4s hk
 have HRD:=Q00 h3
 have HH:Hid (a1≤w.heap.size):=by unfold Hid;omega
 have HN:=Q00 hla.symm
 have HFT:=Q00 (fun i (hi:i < m.ags.length)=> Qga hf.2.1 i hi)
 rw [←hla] at hall ⊢
 clear hla h3 kk hf hk hh
 have HAL:=Q00 hall.2
 have HN6:=Q00 hall.1
 clear hall
 obtain ⟨now,hK⟩:∃q,m.now=q:=⟨_,rfl⟩
 obtain ⟨rst,hrst⟩:∃q,m.rst=q:=⟨_,rfl⟩
 obtain ⟨gone,hD⟩:∃q,m.gone=q:=⟨_,rfl⟩
 rw [hK,hrst,hD] at bx
 clear hK hrst hD
 obtain ⟨n,hn⟩:∃q,la=q:=⟨_,rfl⟩
 rw [hn] at HRD HN HAL HN6 bx ⊢
 clear hn la
 have HFL:=Q00 hfl
 clear hfl
 have hb0:Below w.heap.size w (w.alloc (.cells #[.int .i64 a,.int .i64 p] 75)):=(Below.refl _ _).alloc (Kaq _) _
 have bx0:=Q0u bx hb0
 have bf:=World.alloc_heap_new w (.cells #[.int .i64 a,.int .i64 p] 75)
 obtain ⟨z0,z1,z2,z3,z4,z5,z6,z7,z8,z9,z10,z11,z12,_⟩:=Q14 bx0
 have HB:=Q00 hb0
 have HF:=Q00 bf
 clear bx bx0 bf hb0
 go_enter Tryz.func78,Tryz.ntmps78
 go_upto_region 3 with fail
 generalize (w.alloc (.cells #[.int .i64 a,.int .i64 p] 75))=W0 at *
 clear z0 z1 z2 z3 z4 z5 z6 z7 z8 z9 z10 z11 z12
 go_loopw [5,13] (fun ov iv wr=> ∃(k:Nat) (oQ:Option Addr) (nQ cQ:Nat),k≤n∧iv=.int .i64 (k:Int)∧ov=.slice oQ nQ cQ∧Hid (nQ=(Q27 m.ags a p k).length)∧Hid (ownL Q1q 3 wr w.heap.size (.slice oQ nQ cQ) (Q27 m.ags a p k))∧Hid (Below w.heap.size w wr)∧Hid (wr.heap[w.heap.size]? =some (.cells #[.int .i64 a,.int .i64 p] 75 (0,0))))
  (fun _ iv _=> n - (intOf iv).toNat)
 case atStart=> exact ⟨0,none,0,0,Kcq _,rfl,rfl,rfl,World.ownsRow_nil _ _ _ _,HB.out,HF.out⟩
 case round=>
  obtain ⟨k,oQ,nQ,cQ,hk8,rfl,rfl,HNQ,HO,HT,HFr⟩:=hrel
  by_cases hlt:k < n
  ·have z:(k:Int) < (n:Int):=by omega
   obtain ⟨mk,hm⟩:∃q,m.ags.getD k amD=q:=⟨_,rfl⟩
   have hok:=HAL.out k hlt
   have hft:=HFT.out k (by rw [HN.out];exact hlt)
   rw [hm] at hok hft
   have hpos:=Q8R hok.1
   have hnq:=HNQ.out
   have hql:nQ≤n:=by have:=Q2v m.ags a p k;omega
   have h6:n≤6:=Nat.le_of_eq HN6.out
   obtain ⟨b,off,ga,gb,rfl,hbl,p0,p1,p2,p3,p4,rc,_⟩:=InE.agent HRD.out k (by rw [HN.out];exact hlt) hm
   have hC:=Kbq hbl HH.out
   replace p0:=bCA HT.out p0 hC
   replace p1:=bCA HT.out p1 hC
   replace p2:=bCA HT.out p2 hC
   replace p3:=bCA HT.out p3 hC
   replace p4:=bCA HT.out p4 hC
   rcases rc with rc|⟨b2,f2,e2,hb2,hc2⟩
   ·have:=hpos.1;rw [rc] at this;simp at this
   injection e2 with e2
   injection e2 with e2 e3
   subst e2 e3
   have hid:=hok.2
   rw [hid] at p2
   have HY:=Q00 (show Q27 m.ags a p (k+1)=if (Q2w mk.c a p).2 then Q27 m.ags a p k++[(k:Int)] else Q27 m.ags a p k by rw [←hm];rfl)
   obtain ⟨B,hB⟩:∃q,(Q2w mk.c a p).2=q:=⟨_,rfl⟩
   have HL:Hid (∀W,Below w.heap.size w W→Calls Tryz.prog 137 #[.agg #[.slice (some ⟨ga,0,none⟩) mk.c.length mk.c.length],Q6O a p] W fun e w'=> e=.returned (.bool B)∧Below W.heap.size W w'):=fun W hB'=> by
    rw [←hB]
    have hg':=Kbq hb2 HH.out
    exact QeM ga 0 _ mk.c a p W hpos.1 (by omega) HFL.out (Kbq hg' hB'.size) (fun i hi j hj=> (hB'.cell (p:=⟨ga,0+i * Q0w.k+j,none⟩) hg').trans (hc2 i hi j hj))
   rw [hB] at HY
   clear hok hft hm hpos hnq hc2 hid hB
   obtain ⟨q1,hq1⟩:∃q,mk.c.length=q:=⟨_,rfl⟩
   obtain ⟨q2,hq2⟩:∃q,mk.t.length=q:=⟨_,rfl⟩
   rw [hq1] at HL p0
   rw [hq2] at p1
   clear hq1 hq2
   have bx:=World.alloc_heap_new wr (.cells #[.slice (some ⟨ga,0,none⟩) q1 q1,.slice (some ⟨gb,0,none⟩) q2 q2,.int .i64 (k:Int),.int .i64 mk.lim,.bool mk.dr] 140)
   have hb1:Below wr.heap.size wr (wr.alloc (.cells #[.slice (some ⟨ga,0,none⟩) q1 q1,.slice (some ⟨gb,0,none⟩) q2 q2,.int .i64 (k:Int),.int .i64 mk.lim,.bool mk.dr] 140)):=(Below.refl _ _).alloc (Kaq _) _
   have HB1:=Q00 hb1
   have HBX:=Q00 bx
   have x0:(wr.alloc (.cells #[.slice (some ⟨ga,0,none⟩) q1 q1,.slice (some ⟨gb,0,none⟩) q2 q2,.int .i64 (k:Int),.int .i64 mk.lim,.bool mk.dr] 140)).cell? ⟨wr.heap.size,0,none⟩=some (.slice (some ⟨ga,0,none⟩) q1 q1):=Q02 bx 0 _ rfl
   have x1:(wr.alloc (.cells #[.slice (some ⟨ga,0,none⟩) q1 q1,.slice (some ⟨gb,0,none⟩) q2 q2,.int .i64 (k:Int),.int .i64 mk.lim,.bool mk.dr] 140)).cell? ⟨wr.heap.size,1,none⟩=some (.slice (some ⟨gb,0,none⟩) q2 q2):=Q02 bx 1 _ rfl
   have x2:(wr.alloc (.cells #[.slice (some ⟨ga,0,none⟩) q1 q1,.slice (some ⟨gb,0,none⟩) q2 q2,.int .i64 (k:Int),.int .i64 mk.lim,.bool mk.dr] 140)).cell? ⟨wr.heap.size,2,none⟩=some (.int .i64 (k:Int)):=Q02 bx 2 _ rfl
   have x3:(wr.alloc (.cells #[.slice (some ⟨ga,0,none⟩) q1 q1,.slice (some ⟨gb,0,none⟩) q2 q2,.int .i64 (k:Int),.int .i64 mk.lim,.bool mk.dr] 140)).cell? ⟨wr.heap.size,3,none⟩=some (.int .i64 mk.lim):=Q02 bx 3 _ rfl
   have x4:(wr.alloc (.cells #[.slice (some ⟨ga,0,none⟩) q1 q1,.slice (some ⟨gb,0,none⟩) q2 q2,.int .i64 (k:Int),.int .i64 mk.lim,.bool mk.dr] 140)).cell? ⟨wr.heap.size,4,none⟩=some (.bool mk.dr):=Q02 bx 4 _ rfl
   have hf1:=Q0u HFr.out hb1
   have f0:(wr.alloc (.cells #[.slice (some ⟨ga,0,none⟩) q1 q1,.slice (some ⟨gb,0,none⟩) q2 q2,.int .i64 (k:Int),.int .i64 mk.lim,.bool mk.dr] 140)).cell? ⟨w.heap.size,0,none⟩=some (.int .i64 a):=Q02 hf1 0 _ rfl
   have f1:(wr.alloc (.cells #[.slice (some ⟨ga,0,none⟩) q1 q1,.slice (some ⟨gb,0,none⟩) q2 q2,.int .i64 (k:Int),.int .i64 mk.lim,.bool mk.dr] 140)).cell? ⟨w.heap.size,1,none⟩=some (.int .i64 p):=Q02 hf1 1 _ rfl
   have HF1:=Q00 hf1
   clear hf1
   clear bx hb1
   go_wp2_with fail
   generalize (wr.alloc (.cells #[.slice (some ⟨ga,0,none⟩) q1 q1,.slice (some ⟨gb,0,none⟩) q2 q2,.int .i64 (k:Int),.int .i64 mk.lim,.bool mk.dr] 140))=w1 at *
   refine (HL.out w1 (HT.out.trans (HB1.out.mono HT.out.size))).mono ?_
   rintro e w2 ⟨rfl,hb⟩
   have HB12:=Q00 (HB1.out.trans (hb.mono HB1.out.size))
   have HBE:=Q00 (HT.out.trans (HB12.out.mono HT.out.size))
   have HOE:=Q00 (Q0b HO.out HB12.out)
   have bx2:=Q0u HBX.out hb
   have y2:w2.cell? ⟨wr.heap.size,2,none⟩=some (.int .i64 (k:Int)):=Q02 bx2 2 _ rfl
   have HFE:=Q00 (Q0u HF1.out hb)
   clear hb bx2 f0 f1 x0 x1 x2 x3 x4 p0 p1 p2 p3 p4
   cases B with
   |false=>
    go_wp2
    go_roundw
    case rel=> first
     |exact ⟨k+1,oQ,nQ,cQ,by omega,by go_num,rfl,by rw [HY.out];exact HNQ.out,by rw [HY.out];exact HOE.out,HBE.out,HFE.out⟩
     |(refine ⟨_, ?_,rfl⟩;exact ⟨k+1,oQ,nQ,cQ,by omega,by go_num,rfl,by rw [HY.out];exact HNQ.out,by rw [HY.out];exact HOE.out,HBE.out,HFE.out⟩)
    case measure=> simp [intOf];omega
   |true=>
    have FO:=Q00 (World.ownsRow.alloc HOE.out (.cells #[.int .i64 (k:Int)] 3))
    go_wp2_with (at_builtin;refine Q0c QgC rfl _ _ rfl w.heap.size _ (Q27 m.ags a p k) rfl FO.out (some ⟨w2.heap.size,0,none⟩) 1 _ [(k:Int)] 1 rfl rfl (fun h=> by cases h) (Qhc w2 (k:Int)) ?e2 ?e3 ?_)
    case e2=> have:=Q2v m.ags a p k;simp;omega
    case e3=> exact Kdq HBE.out.size (by simp)
    intro v8 w8 hv8 hg8 _
    have hl8:(Q27 m.ags a p k++[(k:Int)]).length=nQ+1:=by have:=HNQ.out;simp;omega
    obtain ⟨o8,c8,e8,_⟩:=InL.rd (L:=Q1q) (InRow.of hv8)
    rw [hl8] at e8
    subst e8
    have HV8:=Q00 hv8
    have HL8:=Q00 hl8.symm
    have hgt:∀q,(Value.slice oQ nQ cQ).ownBlock=some q→w.heap.size≤q:=fun q h=> (FO.out.lt q h).1
    have HB8:=Q00 ((HBE.out.alloc HBE.out.size _).grown hg8 (Kdq HBE.out.size (by simp)) hgt)
    have HF8:=Q00 (Q7G HFE.out hg8 FO.out (by decide))
    clear hv8 hg8 hl8 y2
    go_wp2
    go_roundw
    case rel=> first
     |exact ⟨k+1,o8,nQ+1,c8,by omega,by go_num,rfl,by rw [HY.out];exact HL8.out,by rw [HY.out];exact HV8.out,HB8.out,HF8.out⟩
     |(refine ⟨_, ?_,rfl⟩;exact ⟨k+1,o8,nQ+1,c8,by omega,by go_num,rfl,by rw [HY.out];exact HL8.out,by rw [HY.out];exact HV8.out,HB8.out,HF8.out⟩)
    case measure=> simp [intOf];omega
  ·have ek:k=n:=by omega
   subst ek
   go_wp2
   refine bodyPost_ret (v:=.slice oQ nQ cQ) (by simp [results,Tryz.results78,go_sem]) rfl ⟨_,rfl,InRow.of HO.out,HT.out⟩
theorem Q80 (lo hi:Nat) (v:Value) (m:Km) (a p:Int) (w:World) (h:InKm lo hi w v m) (hh:hi≤w.heap.size) (hf:Q6y m):
  Calls Tryz.prog 31 #[v,Q6O a p] w fun e w'=> ∃v',e=.returned v'∧InL Q1q 3 w.heap.size w'.heap.size w' v' (Qeb m a p)∧Below w.heap.size w w':=by
 obtain ⟨kj,o,nj,c,sf,kp,ob,np,cb,oR,nr,cR,ot,nt,ct,oa,na,ca,om,nm,cm,og,ng,cg,ev,r1,r2,r3,r4,ea,em,eg⟩:=(h.rd.le hh).opn
 have HC:=Q00 (fun W (hb:Below w.heap.size w W)=> Q6l lo hi v m W (h.step (Stp.of (lo:=0) (hi:=0) hb) (.inl (Kcq _))) (Kdq hh hb.size) hf)
 have HFIT:=Q00 hf
 subst ev
 have HOM:Hid (Qeb m a p=if okK m && Q0h a p then Q27 m.ags a p m.ags.length else []):=rfl
 generalize m.now=now at *
 generalize m.rst=rst at *
 generalize m.gone=gone at *
 clear r1 r2 r3 r4 ea em eg h hh hf
 obtain ⟨f,hfl⟩:∃q,Q0h a p=q:=⟨_,rfl⟩
 have HFL:=Q00 hfl
 rw [hfl] at HOM
 have HFC:Hid (∀W,Calls Tryz.prog 77 #[Q6O a p] W fun e w'=> e=.returned (.bool f)∧Below W.heap.size W w'):=fun W=> by rw [←hfl];exact Q0E a p W
 clear hfl
 have bx:=Q0u (World.alloc_heap_new w (.cells #[.int .i64 now,.int .i64 kj,.slice o nj c,.int .i64 sf,.int .i64 kp,.slice ob np cb,.slice oR nr cR,.slice ot nt ct,.slice oa na ca,.slice om nm cm,.slice og ng cg,.int .i64 rst,.int .i64 gone] 56)) ((Below.refl _ _).alloc (Kaq _) (.cells #[.int .i64 a,.int .i64 p] 75))
 have bf:=World.alloc_heap_new (w.alloc (.cells #[.int .i64 now,.int .i64 kj,.slice o nj c,.int .i64 sf,.int .i64 kp,.slice ob np cb,.slice oR nr cR,.slice ot nt ct,.slice oa na ca,.slice om nm cm,.slice og ng cg,.int .i64 rst,.int .i64 gone] 56)) (.cells #[.int .i64 a,.int .i64 p] 75)
 have hb0:Below w.heap.size w ((w.alloc (.cells #[.int .i64 now,.int .i64 kj,.slice o nj c,.int .i64 sf,.int .i64 kp,.slice ob np cb,.slice oR nr cR,.slice ot nt ct,.slice oa na ca,.slice om nm cm,.slice og ng cg,.int .i64 rst,.int .i64 gone] 56)).alloc (.cells #[.int .i64 a,.int .i64 p] 75)):=((Below.refl _ _).alloc (Kaq _) _).alloc (by simp) _
 rw [show (w.alloc (.cells #[.int .i64 now,.int .i64 kj,.slice o nj c,.int .i64 sf,.int .i64 kp,.slice ob np cb,.slice oR nr cR,.slice ot nt ct,.slice oa na ca,.slice om nm cm,.slice og ng cg,.int .i64 rst,.int .i64 gone] 56)).heap.size=w.heap.size+1 by simp] at bf
 obtain ⟨z0,z1,z2,z3,z4,z5,z6,z7,z8,z9,z10,z11,z12,_⟩:=Q14 bx
 have f0:=Q02 bf 0 _ rfl
 have f1:=Q02 bf 1 _ rfl
 have HB:=Q00 hb0
 have HF:=Q00 bf
 clear bx bf hb0
 go_enter Tryz.func31,Tryz.ntmps31
 go_wp2_with fail
 generalize ((w.alloc (.cells #[.int .i64 now,.int .i64 kj,.slice o nj c,.int .i64 sf,.int .i64 kp,.slice ob np cb,.slice oR nr cR,.slice ot nt ct,.slice oa na ca,.slice om nm cm,.slice og ng cg,.int .i64 rst,.int .i64 gone] 56)).alloc (.cells #[.int .i64 a,.int .i64 p] 75))=W0 at *
 refine (HC.out W0 HB.out).mono ?_
 rintro e w1 ⟨hc,hb⟩
 have HB1:=Q00 (HB.out.trans (hb.mono HB.out.size))
 have HF1:=Q00 (Q0u HF.out hb)
 clear hb z0 z1 z2 z3 z4 z5 z6 z7 z8 z9 z10 z11 z12 f0 f1 HF HC
 rcases hc with ⟨hk,rfl⟩|⟨hk,P,rfl,hi1⟩
 ·have HK:=Q00 hk
  have HNO:Hid (Qeb m a p=[]):=by unfold Hid;rw [HOM.out,HK.out];rfl
  clear hk
  go_wp2
  refine bodyPost_ret (v:=.slice none 0 0) (by simp [results,Tryz.results31,go_sem]) rfl ⟨_,rfl,by rw [HNO.out];exact ⟨World.ownsRow_nil _ _ _ _,fun b e=> by cases e⟩,HB1.out⟩
 have HK:=Q00 hk
 have HI:=Q00 hi1
 clear hk hi1
 have f0:=Q02 HF1.out 0 _ rfl
 have f1:=Q02 HF1.out 1 _ rfl
 go_wp2_with fail
 refine (HFC.out w1).mono ?_
 rintro e w2 ⟨rfl,hb⟩
 have HB2:=Q00 (HB1.out.trans (hb.mono HB1.out.size))
 have HF2:=Q00 (Q0u HF1.out hb)
 have HI2:=Q00 (HI.out.step (Stp.of (lo:=0) (hi:=0) hb) (.inl (Kcq _)))
 have HS2:=Q00 hb.size
 clear hb f0 f1 HF1
 cases f with
 |false=>
  have HNO:Hid (Qeb m a p=[]):=by unfold Hid;rw [HOM.out,HK.out];rfl
  go_wp2
  refine bodyPost_ret (v:=.slice none 0 0) (by simp [results,Tryz.results31,go_sem]) rfl ⟨_,rfl,by rw [HNO.out];exact ⟨World.ownsRow_nil _ _ _ _,fun b e=> by cases e⟩,HB2.out⟩
 |true=>
  have f0:=Q02 HF2.out 0 _ rfl
  have f1:=Q02 HF2.out 1 _ rfl
  have HO:=Q00 (Qc9 _ _ P m a p w2 HI2.out HS2.out HK.out HFL.out HFIT.out)
  go_wp2_with fail
  refine HO.out.mono ?_
  rintro e w3 ⟨v3,rfl,hv3,hb⟩
  have HB3:=Q00 (HB2.out.trans (hb.mono HB2.out.size))
  have HV3:=Q00 (InRow.mono hv3 HB2.out.size (Kaq _))
  clear hb hv3 f0 f1 HO
  go_wp2
  refine bodyPost_ret (v:=v3) (by simp [results,Tryz.results31,go_sem]) rfl ⟨_,rfl,by rw [HOM.out,HK.out];exact HV3.out,HB3.out⟩
theorem Q57 (v:Value) (m:Km) (a p:Int) (w:World) (hR:RdKm w.heap.size w v m) (hl:Qf8 m):
  Calls Tryz.prog 8 #[v,Q6O a p] w fun e w'=> e=.returned (.bool true)∧Below w.heap.size w w':=by
 obtain ⟨kja,oa,nja,ca,sfa,kpa,oba,npa,cba,oRa,nra,cRa,ota,nta,cta,oaa,naa,caa,oma,nma,cma,oga,nga,cga,eva,era⟩:=hR.opn
 subst eva
 clear era
 obtain ⟨w0,hw0⟩:∃W,((w.alloc (.cells #[.int .i64 m.now,.int .i64 kja,.slice oa nja ca,.int .i64 sfa,.int .i64 kpa,.slice oba npa cba,.slice oRa nra cRa,.slice ota nta cta,.slice oaa naa caa,.slice oma nma cma,.slice oga nga cga,.int .i64 m.rst,.int .i64 m.gone] 38)).alloc (.cells #[.int .i64 a,.int .i64 p] 73))=W:=⟨_,rfl⟩
 have B_w0:Below w.heap.size w w0:=by rw [←hw0];exact (((Below.refl _ _).alloc (Kaq _) _).alloc (by simp) _)
 have hz_w0:w.heap.size+1 < w0.heap.size:=by rw [←hw0];simp
 have bxa:w0.heap[w.heap.size]? =some (.cells #[.int .i64 m.now,.int .i64 kja,.slice oa nja ca,.int .i64 sfa,.int .i64 kpa,.slice oba npa cba,.slice oRa nra cRa,.slice ota nta cta,.slice oaa naa caa,.slice oma nma cma,.slice oga nga cga,.int .i64 m.rst,.int .i64 m.gone] 38 (0,0)):=by
  have h:=World.alloc_heap_new w (.cells #[.int .i64 m.now,.int .i64 kja,.slice oa nja ca,.int .i64 sfa,.int .i64 kpa,.slice oba npa cba,.slice oRa nra cRa,.slice ota nta cta,.slice oaa naa caa,.slice oma nma cma,.slice oga nga cga,.int .i64 m.rst,.int .i64 m.gone] 38)
  (try rw [World.size_alloc] at h)
  (try rw [World.size_alloc] at h)
  rw [←hw0]
  refine (Below.heap_alloc _ _ _ (by simp)).trans ?_
  exact h
 have bxf:w0.heap[w.heap.size+1]? =some (.cells #[.int .i64 a,.int .i64 p] 73 (0,0)):=by
  have h:=World.alloc_heap_new (w.alloc (.cells #[.int .i64 m.now,.int .i64 kja,.slice oa nja ca,.int .i64 sfa,.int .i64 kpa,.slice oba npa cba,.slice oRa nra cRa,.slice ota nta cta,.slice oaa naa caa,.slice oma nma cma,.slice oga nga cga,.int .i64 m.rst,.int .i64 m.gone] 38)) (.cells #[.int .i64 a,.int .i64 p] 73)
  (try rw [World.size_alloc] at h)
  (try rw [World.size_alloc] at h)
  rw [←hw0]
  exact h
 have HR:=Q00 hR
 clear hR
 obtain ⟨bxac0,bxac1,bxac2,bxac3,bxac4,bxac5,bxac6,bxac7,bxac8,bxac9,bxac10,bxac11,bxac12,_⟩:=Q14 bxa
 have HA:=Q00 bxa
 clear bxa
 have HE:=Q00 bxf
 clear bxf
 have HU:=Q00 B_w0
 clear B_w0
 go_enter Tryz.func8,Tryz.ntmps8
 go_wp2_with fail
 clear bxac0 bxac1 bxac2 bxac3 bxac4 bxac5 bxac6 bxac7 bxac8 bxac9 bxac10 bxac11 bxac12
 have bxa:=HA.out
 clear HA
 have bxf:=HE.out
 clear HE
 have B_w0:=HU.out
 clear HU
 clear hw0
 have hR:=HR.out
 clear HR
 refine (Q8W _ m w0 ((hR.kept B_w0 (Kaq _)).le B_w0.size) hl).mono ?_
 rintro e w1 ⟨⟨zz,rfl,hz⟩,hb_w1⟩
 replace bxa:=(hb_w1.block _ (by omega)).trans bxa
 replace bxf:=(hb_w1.block _ (by omega)).trans bxf
 have B_w1:Below w.heap.size w w1:=B_w0.trans (hb_w1.mono B_w0.size)
 have hs_w1:w0.heap.size≤w1.heap.size:=hb_w1.size
 clear hb_w1 B_w0
 rcases hz with ⟨hz1,hz2⟩|⟨hz1,hz2,hf⟩
 ·have HA:=Q00 bxa
  clear bxa
  have HE:=Q00 bxf
  clear bxf
  have HU:=Q00 B_w1
  clear B_w1
  go_wp2
  go_ret
  exact ⟨rfl,HU.out⟩
 ·have HS:=Q00 (fun lo hi v w h hh=> Q7T lo hi v m a p w h hh hf)
  have HI:=Q00 (fun lo hi v w h hh=> Q80 lo hi v m a p w h hh hf)
  have hmr:=QeI m a p
  generalize Qeb m a p=mr at *
  have HF:=Q00 hf
  clear hf
  obtain ⟨bxac0,bxac1,bxac2,bxac3,bxac4,bxac5,bxac6,bxac7,bxac8,bxac9,bxac10,bxac11,bxac12,_⟩:=Q14 bxa
  have bxfc0:w1.cell? ⟨w.heap.size+1,0,none⟩=some (.int .i64 a):=Q02 bxf 0 _ rfl
  have bxfc1:w1.cell? ⟨w.heap.size+1,1,none⟩=some (.int .i64 p):=Q02 bxf 1 _ rfl
  have HA:=Q00 bxa
  clear bxa
  have HE:=Q00 bxf
  clear bxf
  have HU:=Q00 B_w1
  clear B_w1
  go_wp2
  have hL:w.heap.size < w1.heap.size:=by omega
  have HD:w.heap.size+1 < w1.heap.size:=by omega
  obtain ⟨d_0,d_1,d_2,d_3,d_4,d_5,d_6,d_7,d_8,d_9,d_10,d_11,d_12,_⟩:=Q14 (W:=w1.drew) (HA.out)
  have d_13:w1.drew.cell? ⟨w.heap.size+1,0,none⟩=some (.int .i64 a):=bxfc0
  have d_14:w1.drew.cell? ⟨w.heap.size+1,1,none⟩=some (.int .i64 p):=bxfc1
  go_region_held3 (fun w'=> w'.cell? ⟨w.heap.size,0,none⟩=some (.int .i64 m.now)∧w'.cell? ⟨w.heap.size,1,none⟩=some (.int .i64 kja)∧w'.cell? ⟨w.heap.size,2,none⟩=some (.slice oa nja ca)∧w'.cell? ⟨w.heap.size,3,none⟩=some (.int .i64 sfa)∧w'.cell? ⟨w.heap.size,4,none⟩=some (.int .i64 kpa)∧w'.cell? ⟨w.heap.size,5,none⟩=some (.slice oba npa cba)∧w'.cell? ⟨w.heap.size,6,none⟩=some (.slice oRa nra cRa)∧w'.cell? ⟨w.heap.size,7,none⟩=some (.slice ota nta cta)∧w'.cell? ⟨w.heap.size,8,none⟩=some (.slice oaa naa caa)∧w'.cell? ⟨w.heap.size,9,none⟩=some (.slice oma nma cma)∧w'.cell? ⟨w.heap.size,10,none⟩=some (.slice oga nga cga)∧w'.cell? ⟨w.heap.size,11,none⟩=some (.int .i64 m.rst)∧w'.cell? ⟨w.heap.size,12,none⟩=some (.int .i64 m.gone)∧w'.cell? ⟨w.heap.size+1,0,none⟩=some (.int .i64 a)∧w'.cell? ⟨w.heap.size+1,1,none⟩=some (.int .i64 p)) (first|with_reducible exact ⟨k2_0,k2_1,k2_2,k2_3,k2_4,k2_5,k2_6,k2_7,k2_8,k2_9,k2_10,k2_11,k2_12,k2_13,k2_14⟩|with_reducible exact ⟨k1_0,k1_1,k1_2,k1_3,k1_4,k1_5,k1_6,k1_7,k1_8,k1_9,k1_10,k1_11,k1_12,k1_13,k1_14⟩|with_reducible exact ⟨k0_0,k0_1,k0_2,k0_3,k0_4,k0_5,k0_6,k0_7,k0_8,k0_9,k0_10,k0_11,k0_12,k0_13,k0_14⟩|with_reducible exact ⟨d_0,d_1,d_2,d_3,d_4,d_5,d_6,d_7,d_8,d_9,d_10,d_11,d_12,d_13,d_14⟩) (first|(go_at_call 13;refine (Q2g _ m w1.drew ((hR.kept (Below.drew HU.out) (Kaq _)).le HU.out.size) HF.out).mono ?_;rintro e w2 ⟨v2,rfl,in2,hb⟩;have hx0:Below w1.heap.size w1 w2:=(Below.drew (Below.refl _ _)).trans hb;clear hb;obtain ⟨k0_0,k0_1,k0_2,k0_3,k0_4,k0_5,k0_6,k0_7,k0_8,k0_9,k0_10,k0_11,k0_12,_⟩:=Q14 (W:=w2) (Q0u HA.out hx0);have k0_13:w2.cell? ⟨w.heap.size+1,0,none⟩=some (.int .i64 a):=(hx0.cell (p:=⟨w.heap.size+1,0,none⟩) HD).trans bxfc0;have k0_14:w2.cell? ⟨w.heap.size+1,1,none⟩=some (.int .i64 p):=(hx0.cell (p:=⟨w.heap.size+1,1,none⟩) HD).trans bxfc1)|(go_at_call 30;refine (Q1H a p w2).mono ?_;rintro e w3 ⟨rfl,hb⟩;have rd2:=in2.step (Stp.of (lo:=0) (hi:=0) hb) (.inl (Kcq _));have sz2:=hb.size;have hx1:Below w1.heap.size w1 w3:=hx0.trans (hb.mono hx0.size);clear hb;obtain ⟨k1_0,k1_1,k1_2,k1_3,k1_4,k1_5,k1_6,k1_7,k1_8,k1_9,k1_10,k1_11,k1_12,_⟩:=Q14 (W:=w3) (Q0u HA.out hx1);have k1_13:w3.cell? ⟨w.heap.size+1,0,none⟩=some (.int .i64 a):=(hx1.cell (p:=⟨w.heap.size+1,0,none⟩) HD).trans bxfc0;have k1_14:w3.cell? ⟨w.heap.size+1,1,none⟩=some (.int .i64 p):=(hx1.cell (p:=⟨w.heap.size+1,1,none⟩) HD).trans bxfc1)|(go_at_call 29;refine (HS.out _ _ _ w3 rd2 sz2).mono ?_;rintro e w4 ⟨vw,rfl,inw,hb⟩;have szw:=hb.size;have svw:=hx1.size;have hx2:Below w1.heap.size w1 w4:=hx1.trans (hb.mono hx1.size);clear hb;obtain ⟨k2_0,k2_1,k2_2,k2_3,k2_4,k2_5,k2_6,k2_7,k2_8,k2_9,k2_10,k2_11,k2_12,_⟩:=Q14 (W:=w4) (Q0u HA.out hx2);have k2_13:w4.cell? ⟨w.heap.size+1,0,none⟩=some (.int .i64 a):=(hx2.cell (p:=⟨w.heap.size+1,0,none⟩) HD).trans bxfc0;have k2_14:w4.cell? ⟨w.heap.size+1,1,none⟩=some (.int .i64 p):=(hx2.cell (p:=⟨w.heap.size+1,1,none⟩) HD).trans bxfc1))
  clear k0_0 k0_1 k0_2 k0_3 k0_4 k0_5 k0_6 k0_7 k0_8 k0_9 k0_10 k0_11 k0_12 k0_13 k0_14
  clear k1_0 k1_1 k1_2 k1_3 k1_4 k1_5 k1_6 k1_7 k1_8 k1_9 k1_10 k1_11 k1_12 k1_13 k1_14
  clear k2_0 k2_1 k2_2 k2_3 k2_4 k2_5 k2_6 k2_7 k2_8 k2_9 k2_10 k2_11 k2_12 k2_13 k2_14
  clear d_0 d_1 d_2 d_3 d_4 d_5 d_6 d_7 d_8 d_9 d_10 d_11 d_12 d_13 d_14
  clear hL HD hx0 hx1
  clear bxac0 bxac1 bxac2 bxac3 bxac4 bxac5 bxac6 bxac7 bxac8 bxac9 bxac10 bxac11 bxac12
  clear bxfc0 bxfc1
  have bxa:=HA.out
  clear HA
  have bxf:=HE.out
  clear HE
  have B_w1:=HU.out
  clear HU
  replace bxa:=(hx2.block _ (by omega)).trans bxa
  replace bxf:=(hx2.block _ (by omega)).trans bxf
  have B_w4:Below w.heap.size w w4:=B_w1.trans (hx2.mono B_w1.size)
  have hs_w4:w1.heap.size≤w4.heap.size:=hx2.size
  clear hx2 B_w1
  clear rd2 sz2 in2
  obtain ⟨bxac0,bxac1,bxac2,bxac3,bxac4,bxac5,bxac6,bxac7,bxac8,bxac9,bxac10,bxac11,bxac12,_⟩:=Q14 bxa
  have HA:=Q00 bxa
  clear bxa
  have HE:=Q00 bxf
  clear bxf
  have HM:=Q00 inw
  clear inw
  have HU:=Q00 B_w4
  clear B_w4
  go_wp2_with fail
  clear bxac0 bxac1 bxac2 bxac3 bxac4 bxac5 bxac6 bxac7 bxac8 bxac9 bxac10 bxac11 bxac12
  have bxa:=HA.out
  clear HA
  have bxf:=HE.out
  clear HE
  have inw:=HM.out
  clear HM
  have B_w4:=HU.out
  clear HU
  refine (Q2g _ m w4 ((hR.kept B_w4 (Kaq _)).le B_w4.size) HF.out).mono ?_
  rintro e w5 ⟨vx,rfl,inx,hb_w5⟩
  replace bxa:=(hb_w5.block _ (by omega)).trans bxa
  replace bxf:=(hb_w5.block _ (by omega)).trans bxf
  replace inw:=inw.step (Stp.of (lo:=0) (hi:=0) hb_w5) (.inl (Kcq _))
  have B_w5:Below w.heap.size w w5:=B_w4.trans (hb_w5.mono B_w4.size)
  have hs_w5:w4.heap.size≤w5.heap.size:=hb_w5.size
  clear hb_w5 B_w4
  obtain ⟨kjx,ox,njx,cx,sfx,kpx,obx,npx,cbx,oRx,nrx,cRx,otx,ntx,ctx,oax,nax,cax,omx,nmx,cmx,ogx,ngx,cgx,evx,erx⟩:=inx.rd.opn
  subst evx
  clear erx
  obtain ⟨w6,hW_w6⟩:∃W,w5.alloc (.cells #[.int .i64 m.now,.int .i64 kjx,.slice ox njx cx,.int .i64 sfx,.int .i64 kpx,.slice obx npx cbx,.slice oRx nrx cRx,.slice otx ntx ctx,.slice oax nax cax,.slice omx nmx cmx,.slice ogx ngx cgx,.int .i64 m.rst,.int .i64 m.gone] 56)=W:=⟨_,rfl⟩
  have bxx:w6.heap[w5.heap.size]? =some (.cells #[.int .i64 m.now,.int .i64 kjx,.slice ox njx cx,.int .i64 sfx,.int .i64 kpx,.slice obx npx cbx,.slice oRx nrx cRx,.slice otx ntx ctx,.slice oax nax cax,.slice omx nmx cmx,.slice ogx ngx cgx,.int .i64 m.rst,.int .i64 m.gone] 56 (0,0)):=by rw [←hW_w6];exact World.alloc_heap_new w5 _
  have hM:Below w5.heap.size w5 w6:=by rw [←hW_w6];exact (Below.refl _ _).alloc (Kaq _) _
  have hz_w6:w5.heap.size < w6.heap.size:=by rw [←hW_w6];simp
  replace bxa:=(hM.block _ (by omega)).trans bxa
  replace bxf:=(hM.block _ (by omega)).trans bxf
  replace inw:=inw.step (Stp.of (lo:=0) (hi:=0) hM) (.inl (Kcq _))
  replace inx:=inx.step (Stp.of (lo:=0) (hi:=0) hM) (.inl (Kcq _))
  have B_w6:Below w.heap.size w w6:=B_w5.trans (hM.mono B_w5.size)
  have hs_w6:w5.heap.size≤w6.heap.size:=hM.size
  clear hM B_w5
  obtain ⟨bxxc0,bxxc1,bxxc2,bxxc3,bxxc4,bxxc5,bxxc6,bxxc7,bxxc8,bxxc9,bxxc10,bxxc11,bxxc12,_⟩:=Q14 bxx
  have bxfc0:w6.cell? ⟨w.heap.size+1,0,none⟩=some (.int .i64 a):=Q02 bxf 0 _ rfl
  have bxfc1:w6.cell? ⟨w.heap.size+1,1,none⟩=some (.int .i64 p):=Q02 bxf 1 _ rfl
  have HA:=Q00 bxa
  clear bxa
  have HE:=Q00 bxf
  clear bxf
  have HM:=Q00 inw
  clear inw
  have hF:=Q00 inx
  clear inx
  have HZ:=Q00 bxx
  clear bxx
  have HU:=Q00 B_w6
  clear B_w6
  go_wp2
  have hP:w5.heap.size < w6.heap.size:=by omega
  have HD:w.heap.size+1 < w6.heap.size:=by omega
  obtain ⟨d_0,d_1,d_2,d_3,d_4,d_5,d_6,d_7,d_8,d_9,d_10,d_11,d_12,_⟩:=Q14 (W:=w6.drew) (HZ.out)
  have d_13:w6.drew.cell? ⟨w.heap.size+1,0,none⟩=some (.int .i64 a):=bxfc0
  have d_14:w6.drew.cell? ⟨w.heap.size+1,1,none⟩=some (.int .i64 p):=bxfc1
  go_region_held3 (fun w'=> w'.cell? ⟨w5.heap.size,0,none⟩=some (.int .i64 m.now)∧w'.cell? ⟨w5.heap.size,1,none⟩=some (.int .i64 kjx)∧w'.cell? ⟨w5.heap.size,2,none⟩=some (.slice ox njx cx)∧w'.cell? ⟨w5.heap.size,3,none⟩=some (.int .i64 sfx)∧w'.cell? ⟨w5.heap.size,4,none⟩=some (.int .i64 kpx)∧w'.cell? ⟨w5.heap.size,5,none⟩=some (.slice obx npx cbx)∧w'.cell? ⟨w5.heap.size,6,none⟩=some (.slice oRx nrx cRx)∧w'.cell? ⟨w5.heap.size,7,none⟩=some (.slice otx ntx ctx)∧w'.cell? ⟨w5.heap.size,8,none⟩=some (.slice oax nax cax)∧w'.cell? ⟨w5.heap.size,9,none⟩=some (.slice omx nmx cmx)∧w'.cell? ⟨w5.heap.size,10,none⟩=some (.slice ogx ngx cgx)∧w'.cell? ⟨w5.heap.size,11,none⟩=some (.int .i64 m.rst)∧w'.cell? ⟨w5.heap.size,12,none⟩=some (.int .i64 m.gone)∧w'.cell? ⟨w.heap.size+1,0,none⟩=some (.int .i64 a)∧w'.cell? ⟨w.heap.size+1,1,none⟩=some (.int .i64 p)) (first|with_reducible exact ⟨k1_0,k1_1,k1_2,k1_3,k1_4,k1_5,k1_6,k1_7,k1_8,k1_9,k1_10,k1_11,k1_12,k1_13,k1_14⟩|with_reducible exact ⟨k0_0,k0_1,k0_2,k0_3,k0_4,k0_5,k0_6,k0_7,k0_8,k0_9,k0_10,k0_11,k0_12,k0_13,k0_14⟩|with_reducible exact ⟨d_0,d_1,d_2,d_3,d_4,d_5,d_6,d_7,d_8,d_9,d_10,d_11,d_12,d_13,d_14⟩) (first|(go_at_call 30;refine (Q1H a p w6.drew).mono ?_;rintro e w7 ⟨rfl,hb⟩;have rdx:=hF.out.step (Stp.of (lo:=0) (hi:=0) ((Below.drew (Below.refl _ _)).trans hb)) (.inl (Kcq _));have szx:=Kdq (Nat.le_of_lt hP) hb.size;have hx0:Below w6.heap.size w6 w7:=(Below.drew (Below.refl _ _)).trans hb;clear hb;obtain ⟨k0_0,k0_1,k0_2,k0_3,k0_4,k0_5,k0_6,k0_7,k0_8,k0_9,k0_10,k0_11,k0_12,_⟩:=Q14 (W:=w7) (Q0u HZ.out hx0);have k0_13:w7.cell? ⟨w.heap.size+1,0,none⟩=some (.int .i64 a):=(hx0.cell (p:=⟨w.heap.size+1,0,none⟩) HD).trans bxfc0;have k0_14:w7.cell? ⟨w.heap.size+1,1,none⟩=some (.int .i64 p):=(hx0.cell (p:=⟨w.heap.size+1,1,none⟩) HD).trans bxfc1)|(go_at_call 31;refine (HI.out _ _ _ w7 rdx szx).mono ?_;rintro e w8 ⟨vg,rfl,ing,hb⟩;have szg:=hb.size;have svg:=hx0.size;have hx1:Below w6.heap.size w6 w8:=hx0.trans (hb.mono hx0.size);clear hb;obtain ⟨k1_0,k1_1,k1_2,k1_3,k1_4,k1_5,k1_6,k1_7,k1_8,k1_9,k1_10,k1_11,k1_12,_⟩:=Q14 (W:=w8) (Q0u HZ.out hx1);have k1_13:w8.cell? ⟨w.heap.size+1,0,none⟩=some (.int .i64 a):=(hx1.cell (p:=⟨w.heap.size+1,0,none⟩) HD).trans bxfc0;have k1_14:w8.cell? ⟨w.heap.size+1,1,none⟩=some (.int .i64 p):=(hx1.cell (p:=⟨w.heap.size+1,1,none⟩) HD).trans bxfc1))
  clear k0_0 k0_1 k0_2 k0_3 k0_4 k0_5 k0_6 k0_7 k0_8 k0_9 k0_10 k0_11 k0_12 k0_13 k0_14
  clear k1_0 k1_1 k1_2 k1_3 k1_4 k1_5 k1_6 k1_7 k1_8 k1_9 k1_10 k1_11 k1_12 k1_13 k1_14
  clear d_0 d_1 d_2 d_3 d_4 d_5 d_6 d_7 d_8 d_9 d_10 d_11 d_12 d_13 d_14
  clear hP HD hx0
  clear bxxc0 bxxc1 bxxc2 bxxc3 bxxc4 bxxc5 bxxc6 bxxc7 bxxc8 bxxc9 bxxc10 bxxc11 bxxc12
  clear bxfc0 bxfc1
  have bxa:=HA.out
  clear HA
  have bxf:=HE.out
  clear HE
  have inw:=HM.out
  clear HM
  have inx:=hF.out
  clear hF
  have bxx:=HZ.out
  clear HZ
  have B_w6:=HU.out
  clear HU
  replace bxa:=(hx1.block _ (by omega)).trans bxa
  replace bxf:=(hx1.block _ (by omega)).trans bxf
  replace inw:=inw.step (Stp.of (lo:=0) (hi:=0) hx1) (.inl (Kcq _))
  replace inx:=inx.step (Stp.of (lo:=0) (hi:=0) hx1) (.inl (Kcq _))
  replace bxx:=(hx1.block _ (by omega)).trans bxx
  have B_w8:Below w.heap.size w w8:=B_w6.trans (hx1.mono B_w6.size)
  have hs_w8:w6.heap.size≤w8.heap.size:=hx1.size
  clear hx1 B_w6
  clear rdx szx
  clear hW_w6
  have HA:=Q00 bxa
  clear bxa
  have HE:=Q00 bxf
  clear bxf
  have HM:=Q00 inw
  clear inw
  have hF:=Q00 inx
  clear inx
  have HZ:=Q00 bxx
  clear bxx
  have HP:=Q00 ing
  clear ing
  have HU:=Q00 B_w8
  clear B_w8
  go_wp2_with fail
  have bxa:=HA.out
  clear HA
  have bxf:=HE.out
  clear HE
  have inw:=HM.out
  clear HM
  have inx:=hF.out
  clear hF
  have bxx:=HZ.out
  clear HZ
  have ing:=HP.out
  clear HP
  have B_w8:=HU.out
  clear HU
  refine (Q62 _ _ mr w8 ((InL.rd (L:=Q1q) ing).le (by omega)) ((InL.rd (L:=Q1q) inw).le (by omega)) (by omega)).mono ?_
  rintro e w9 ⟨rfl,hN⟩
  replace bxa:=(hN.block _ (by omega)).trans bxa
  replace bxf:=(hN.block _ (by omega)).trans bxf
  replace inw:=inw.step (Stp.of (lo:=0) (hi:=0) hN) (.inl (Kcq _))
  replace inx:=inx.step (Stp.of (lo:=0) (hi:=0) hN) (.inl (Kcq _))
  replace bxx:=(hN.block _ (by omega)).trans bxx
  replace ing:=ing.step (Stp.of (lo:=0) (hi:=0) hN) (.inl (Kcq _))
  have B_w9:Below w.heap.size w w9:=B_w8.trans (hN.mono B_w8.size)
  have hs_w9:w8.heap.size≤w9.heap.size:=hN.size
  clear hN B_w8
  obtain ⟨bxac0,bxac1,bxac2,bxac3,bxac4,bxac5,bxac6,bxac7,bxac8,bxac9,bxac10,bxac11,bxac12,_⟩:=Q14 bxa
  obtain ⟨bxxc0,bxxc1,bxxc2,bxxc3,bxxc4,bxxc5,bxxc6,bxxc7,bxxc8,bxxc9,bxxc10,bxxc11,bxxc12,_⟩:=Q14 bxx
  have HA:=Q00 bxa
  clear bxa
  have HE:=Q00 bxf
  clear bxf
  have HM:=Q00 inw
  clear inw
  have hF:=Q00 inx
  clear inx
  have HZ:=Q00 bxx
  clear bxx
  have HP:=Q00 ing
  clear ing
  have HU:=Q00 B_w9
  clear B_w9
  go_wp2
  have hL:w.heap.size < w9.heap.size:=by omega
  have hP:w5.heap.size < w9.heap.size:=by omega
  obtain ⟨d_0,d_1,d_2,d_3,d_4,d_5,d_6,d_7,d_8,d_9,d_10,d_11,d_12,_⟩:=Q14 (W:=w9.drew) (HA.out)
  obtain ⟨d_13,d_14,d_15,d_16,d_17,d_18,d_19,d_20,d_21,d_22,d_23,d_24,d_25,_⟩:=Q14 (W:=w9.drew) (HZ.out)
  go_region_held3 (fun w'=> w'.cell? ⟨w.heap.size,0,none⟩=some (.int .i64 m.now)∧w'.cell? ⟨w.heap.size,1,none⟩=some (.int .i64 kja)∧w'.cell? ⟨w.heap.size,2,none⟩=some (.slice oa nja ca)∧w'.cell? ⟨w.heap.size,3,none⟩=some (.int .i64 sfa)∧w'.cell? ⟨w.heap.size,4,none⟩=some (.int .i64 kpa)∧w'.cell? ⟨w.heap.size,5,none⟩=some (.slice oba npa cba)∧w'.cell? ⟨w.heap.size,6,none⟩=some (.slice oRa nra cRa)∧w'.cell? ⟨w.heap.size,7,none⟩=some (.slice ota nta cta)∧w'.cell? ⟨w.heap.size,8,none⟩=some (.slice oaa naa caa)∧w'.cell? ⟨w.heap.size,9,none⟩=some (.slice oma nma cma)∧w'.cell? ⟨w.heap.size,10,none⟩=some (.slice oga nga cga)∧w'.cell? ⟨w.heap.size,11,none⟩=some (.int .i64 m.rst)∧w'.cell? ⟨w.heap.size,12,none⟩=some (.int .i64 m.gone)∧w'.cell? ⟨w5.heap.size,0,none⟩=some (.int .i64 m.now)∧w'.cell? ⟨w5.heap.size,1,none⟩=some (.int .i64 kjx)∧w'.cell? ⟨w5.heap.size,2,none⟩=some (.slice ox njx cx)∧w'.cell? ⟨w5.heap.size,3,none⟩=some (.int .i64 sfx)∧w'.cell? ⟨w5.heap.size,4,none⟩=some (.int .i64 kpx)∧w'.cell? ⟨w5.heap.size,5,none⟩=some (.slice obx npx cbx)∧w'.cell? ⟨w5.heap.size,6,none⟩=some (.slice oRx nrx cRx)∧w'.cell? ⟨w5.heap.size,7,none⟩=some (.slice otx ntx ctx)∧w'.cell? ⟨w5.heap.size,8,none⟩=some (.slice oax nax cax)∧w'.cell? ⟨w5.heap.size,9,none⟩=some (.slice omx nmx cmx)∧w'.cell? ⟨w5.heap.size,10,none⟩=some (.slice ogx ngx cgx)∧w'.cell? ⟨w5.heap.size,11,none⟩=some (.int .i64 m.rst)∧w'.cell? ⟨w5.heap.size,12,none⟩=some (.int .i64 m.gone)) (first|with_reducible exact ⟨k1_0,k1_1,k1_2,k1_3,k1_4,k1_5,k1_6,k1_7,k1_8,k1_9,k1_10,k1_11,k1_12,k1_13,k1_14,k1_15,k1_16,k1_17,k1_18,k1_19,k1_20,k1_21,k1_22,k1_23,k1_24,k1_25⟩|with_reducible exact ⟨k0_0,k0_1,k0_2,k0_3,k0_4,k0_5,k0_6,k0_7,k0_8,k0_9,k0_10,k0_11,k0_12,k0_13,k0_14,k0_15,k0_16,k0_17,k0_18,k0_19,k0_20,k0_21,k0_22,k0_23,k0_24,k0_25⟩|with_reducible exact ⟨d_0,d_1,d_2,d_3,d_4,d_5,d_6,d_7,d_8,d_9,d_10,d_11,d_12,d_13,d_14,d_15,d_16,d_17,d_18,d_19,d_20,d_21,d_22,d_23,d_24,d_25⟩) (first|(go_at_call 13;refine (Q2g _ m w9.drew ((hR.kept (Below.drew HU.out) (Kaq _)).le HU.out.size) HF.out).mono ?_;rintro e w10 ⟨va,rfl,ina,hb⟩;have hbx:Below w9.heap.size w9 w10:=(Below.drew (Below.refl _ _)).trans hb;have rdx:=hF.out.rd.kept hbx (by omega);have szx:=hbx.size;have hx0:Below w9.heap.size w9 w10:=(Below.drew (Below.refl _ _)).trans hb;clear hb;obtain ⟨k0_0,k0_1,k0_2,k0_3,k0_4,k0_5,k0_6,k0_7,k0_8,k0_9,k0_10,k0_11,k0_12,_⟩:=Q14 (W:=w10) (Q0u HA.out hx0);obtain ⟨k0_13,k0_14,k0_15,k0_16,k0_17,k0_18,k0_19,k0_20,k0_21,k0_22,k0_23,k0_24,k0_25,_⟩:=Q14 (W:=w10) (Q0u HZ.out hx0))|(go_at_call 15;refine (Q8H _ _ m w10 (rdx.le (by omega)) (ina.rd.le (Kaq _)) HF.out).mono ?_;rintro e w11 ⟨rfl,hb⟩;have hx1:Below w9.heap.size w9 w11:=hx0.trans (hb.mono hx0.size);clear hb;obtain ⟨k1_0,k1_1,k1_2,k1_3,k1_4,k1_5,k1_6,k1_7,k1_8,k1_9,k1_10,k1_11,k1_12,_⟩:=Q14 (W:=w11) (Q0u HA.out hx1);obtain ⟨k1_13,k1_14,k1_15,k1_16,k1_17,k1_18,k1_19,k1_20,k1_21,k1_22,k1_23,k1_24,k1_25,_⟩:=Q14 (W:=w11) (Q0u HZ.out hx1)))
  clear k0_0 k0_1 k0_2 k0_3 k0_4 k0_5 k0_6 k0_7 k0_8 k0_9 k0_10 k0_11 k0_12 k0_13 k0_14 k0_15 k0_16 k0_17 k0_18 k0_19 k0_20 k0_21 k0_22 k0_23 k0_24 k0_25
  clear k1_0 k1_1 k1_2 k1_3 k1_4 k1_5 k1_6 k1_7 k1_8 k1_9 k1_10 k1_11 k1_12 k1_13 k1_14 k1_15 k1_16 k1_17 k1_18 k1_19 k1_20 k1_21 k1_22 k1_23 k1_24 k1_25
  clear d_0 d_1 d_2 d_3 d_4 d_5 d_6 d_7 d_8 d_9 d_10 d_11 d_12 d_13 d_14 d_15 d_16 d_17 d_18 d_19 d_20 d_21 d_22 d_23 d_24 d_25
  clear hL hP hx0
  clear bxac0 bxac1 bxac2 bxac3 bxac4 bxac5 bxac6 bxac7 bxac8 bxac9 bxac10 bxac11 bxac12
  clear bxxc0 bxxc1 bxxc2 bxxc3 bxxc4 bxxc5 bxxc6 bxxc7 bxxc8 bxxc9 bxxc10 bxxc11 bxxc12
  have bxa:=HA.out
  clear HA
  have bxf:=HE.out
  clear HE
  have inw:=HM.out
  clear HM
  have inx:=hF.out
  clear hF
  have bxx:=HZ.out
  clear HZ
  have ing:=HP.out
  clear HP
  have B_w9:=HU.out
  clear HU
  replace bxa:=(hx1.block _ (by omega)).trans bxa
  replace bxf:=(hx1.block _ (by omega)).trans bxf
  replace inw:=inw.step (Stp.of (lo:=0) (hi:=0) hx1) (.inl (Kcq _))
  replace inx:=inx.step (Stp.of (lo:=0) (hi:=0) hx1) (.inl (Kcq _))
  replace bxx:=(hx1.block _ (by omega)).trans bxx
  replace ing:=ing.step (Stp.of (lo:=0) (hi:=0) hx1) (.inl (Kcq _))
  have B_w11:Below w.heap.size w w11:=B_w9.trans (hx1.mono B_w9.size)
  have hs_w11:w9.heap.size≤w11.heap.size:=hx1.size
  clear hx1 B_w9
  clear rdx szx ina hbx
  obtain ⟨bxxc0,bxxc1,bxxc2,bxxc3,bxxc4,bxxc5,bxxc6,bxxc7,bxxc8,bxxc9,bxxc10,bxxc11,bxxc12,_⟩:=Q14 bxx
  have HA:=Q00 bxa
  clear bxa
  have HE:=Q00 bxf
  clear bxf
  have HM:=Q00 inw
  clear inw
  have hF:=Q00 inx
  clear inx
  have HZ:=Q00 bxx
  clear bxx
  have HP:=Q00 ing
  clear ing
  have HU:=Q00 B_w11
  clear B_w11
  go_wp2_with fail
  clear bxxc0 bxxc1 bxxc2 bxxc3 bxxc4 bxxc5 bxxc6 bxxc7 bxxc8 bxxc9 bxxc10 bxxc11 bxxc12
  have bxa:=HA.out
  clear HA
  have bxf:=HE.out
  clear HE
  have inw:=HM.out
  clear HM
  have inx:=hF.out
  clear hF
  have bxx:=HZ.out
  clear HZ
  have ing:=HP.out
  clear HP
  have B_w11:=HU.out
  clear HU
  refine (Q6z (w4.heap.size) (w5.heap.size) _ m 1 w11 inx (by omega) (by omega) (by omega) HF.out).mono ?_
  rintro e w12 ⟨rfl,_,sp_w12⟩
  clear bxx
  replace bxa:=sp_w12.box bxa (by omega)
  replace bxf:=sp_w12.box bxf (by omega)
  replace inw:=inw.step sp_w12 (by omega)
  replace ing:=ing.step sp_w12 (by omega)
  have B_w12:Below w.heap.size w w12:=B_w11.trans (sp_w12.below (by omega) (by omega))
  have hs_w12:w11.heap.size≤w12.heap.size:=sp_w12.size
  clear sp_w12 B_w11
  clear inx
  have hk1:¬(1+nKm m < 0):=by have:=(Qfj HF.out).2.2.2.2.2.1;omega
  generalize 1+nKm m=kb at *
  have HA:=Q00 bxa
  clear bxa
  have HE:=Q00 bxf
  clear bxf
  have HM:=Q00 inw
  clear inw
  have HP:=Q00 ing
  clear ing
  have HU:=Q00 B_w12
  clear B_w12
  go_wp2_with fail
  have bxa:=HA.out
  clear HA
  have bxf:=HE.out
  clear HE
  have inw:=HM.out
  clear HM
  have ing:=HP.out
  clear HP
  have B_w12:=HU.out
  clear HU
  refine (Q62 _ _ mr w12 ((InL.rd (L:=Q1q) ing).le (by omega)) ((InL.rd (L:=Q1q) inw).le (by omega)) (by omega)).mono ?_
  rintro e w13 ⟨rfl,hE⟩
  replace bxa:=(hE.block _ (by omega)).trans bxa
  replace bxf:=(hE.block _ (by omega)).trans bxf
  replace inw:=inw.step (Stp.of (lo:=0) (hi:=0) hE) (.inl (Kcq _))
  replace ing:=ing.step (Stp.of (lo:=0) (hi:=0) hE) (.inl (Kcq _))
  have B_w13:Below w.heap.size w w13:=B_w12.trans (hE.mono B_w12.size)
  have hs_w13:w12.heap.size≤w13.heap.size:=hE.size
  clear hE B_w12
  have HA:=Q00 bxa
  clear bxa
  have HE:=Q00 bxf
  clear bxf
  have HM:=Q00 inw
  clear inw
  have HP:=Q00 ing
  clear ing
  have HU:=Q00 B_w13
  clear B_w13
  go_wp2_with fail
  have bxa:=HA.out
  clear HA
  have bxf:=HE.out
  clear HE
  have inw:=HM.out
  clear HM
  have ing:=HP.out
  clear HP
  have B_w13:=HU.out
  clear HU
  refine (QaU (w7.heap.size) (w8.heap.size) _ mr 1 w13 ing (by omega) (by omega) (by omega)).mono ?_
  rintro e w14 ⟨rfl,ing',sp_w14⟩
  replace sp_w14:Stp (w7.heap.size) (w8.heap.size) w13 w14:=Stp.grown sp_w14 (fun b e=> ⟨(ing.1.lt b e).1,ing.2 b e⟩)
  replace bxa:=sp_w14.box bxa (by omega)
  replace bxf:=sp_w14.box bxf (by omega)
  replace inw:=inw.step sp_w14 (by omega)
  have B_w14:Below w.heap.size w w14:=B_w13.trans (sp_w14.below (by omega) (by omega))
  have hs_w14:w13.heap.size≤w14.heap.size:=sp_w14.size
  clear sp_w14 B_w13
  clear ing
  have ing:=ing'
  clear ing'
  have hk2:¬((1:Int)+(mr.length:Int) < 0):=by omega
  have HA:=Q00 bxa
  clear bxa
  have HE:=Q00 bxf
  clear bxf
  have HM:=Q00 inw
  clear inw
  have HP:=Q00 ing
  clear ing
  have HU:=Q00 B_w14
  clear B_w14
  go_wp2_with fail
  have bxa:=HA.out
  clear HA
  have bxf:=HE.out
  clear HE
  have inw:=HM.out
  clear HM
  have ing:=HP.out
  clear HP
  have B_w14:=HU.out
  clear HU
  refine (Q5J _ mr.length w14.heap.size 1 w14 ((InL.rd (L:=Q1q) ing).le (by omega)) (by omega) (by omega) (by omega)).mono ?_
  rintro e _ ⟨rfl,rfl⟩
  obtain ⟨bxac0,bxac1,bxac2,bxac3,bxac4,bxac5,bxac6,bxac7,bxac8,bxac9,bxac10,bxac11,bxac12,_⟩:=Q14 bxa
  have bxfc0:w14.cell? ⟨w.heap.size+1,0,none⟩=some (.int .i64 a):=Q02 bxf 0 _ rfl
  have bxfc1:w14.cell? ⟨w.heap.size+1,1,none⟩=some (.int .i64 p):=Q02 bxf 1 _ rfl
  have HA:=Q00 bxa
  clear bxa
  have HE:=Q00 bxf
  clear bxf
  have HM:=Q00 inw
  clear inw
  have HP:=Q00 ing
  clear ing
  have HU:=Q00 B_w14
  clear B_w14
  go_wp2
  have hL:w.heap.size < w14.heap.size:=by omega
  have HD:w.heap.size+1 < w14.heap.size:=by omega
  obtain ⟨d_0,d_1,d_2,d_3,d_4,d_5,d_6,d_7,d_8,d_9,d_10,d_11,d_12,_⟩:=Q14 (W:=w14.drew) (HA.out)
  have d_13:w14.drew.cell? ⟨w.heap.size+1,0,none⟩=some (.int .i64 a):=bxfc0
  have d_14:w14.drew.cell? ⟨w.heap.size+1,1,none⟩=some (.int .i64 p):=bxfc1
  go_region_held3 (fun w'=> w'.cell? ⟨w.heap.size,0,none⟩=some (.int .i64 m.now)∧w'.cell? ⟨w.heap.size,1,none⟩=some (.int .i64 kja)∧w'.cell? ⟨w.heap.size,2,none⟩=some (.slice oa nja ca)∧w'.cell? ⟨w.heap.size,3,none⟩=some (.int .i64 sfa)∧w'.cell? ⟨w.heap.size,4,none⟩=some (.int .i64 kpa)∧w'.cell? ⟨w.heap.size,5,none⟩=some (.slice oba npa cba)∧w'.cell? ⟨w.heap.size,6,none⟩=some (.slice oRa nra cRa)∧w'.cell? ⟨w.heap.size,7,none⟩=some (.slice ota nta cta)∧w'.cell? ⟨w.heap.size,8,none⟩=some (.slice oaa naa caa)∧w'.cell? ⟨w.heap.size,9,none⟩=some (.slice oma nma cma)∧w'.cell? ⟨w.heap.size,10,none⟩=some (.slice oga nga cga)∧w'.cell? ⟨w.heap.size,11,none⟩=some (.int .i64 m.rst)∧w'.cell? ⟨w.heap.size,12,none⟩=some (.int .i64 m.gone)∧w'.cell? ⟨w.heap.size+1,0,none⟩=some (.int .i64 a)∧w'.cell? ⟨w.heap.size+1,1,none⟩=some (.int .i64 p)) (first|with_reducible exact ⟨k2_0,k2_1,k2_2,k2_3,k2_4,k2_5,k2_6,k2_7,k2_8,k2_9,k2_10,k2_11,k2_12,k2_13,k2_14⟩|with_reducible exact ⟨k1_0,k1_1,k1_2,k1_3,k1_4,k1_5,k1_6,k1_7,k1_8,k1_9,k1_10,k1_11,k1_12,k1_13,k1_14⟩|with_reducible exact ⟨k0_0,k0_1,k0_2,k0_3,k0_4,k0_5,k0_6,k0_7,k0_8,k0_9,k0_10,k0_11,k0_12,k0_13,k0_14⟩|with_reducible exact ⟨d_0,d_1,d_2,d_3,d_4,d_5,d_6,d_7,d_8,d_9,d_10,d_11,d_12,d_13,d_14⟩) (first|(go_at_call 13;refine (Q2g _ m w14.drew ((hR.kept (Below.drew HU.out) (Kaq _)).le HU.out.size) HF.out).mono ?_;rintro e w15 ⟨v2,rfl,in2,hb⟩;have hx0:Below w14.heap.size w14 w15:=(Below.drew (Below.refl _ _)).trans hb;clear hb;obtain ⟨k0_0,k0_1,k0_2,k0_3,k0_4,k0_5,k0_6,k0_7,k0_8,k0_9,k0_10,k0_11,k0_12,_⟩:=Q14 (W:=w15) (Q0u HA.out hx0);have k0_13:w15.cell? ⟨w.heap.size+1,0,none⟩=some (.int .i64 a):=(hx0.cell (p:=⟨w.heap.size+1,0,none⟩) HD).trans bxfc0;have k0_14:w15.cell? ⟨w.heap.size+1,1,none⟩=some (.int .i64 p):=(hx0.cell (p:=⟨w.heap.size+1,1,none⟩) HD).trans bxfc1)|(go_at_call 30;refine (Q1H a p w15).mono ?_;rintro e w16 ⟨rfl,hb⟩;have rd2:=in2.step (Stp.of (lo:=0) (hi:=0) hb) (.inl (Kcq _));have sz2:=hb.size;have hx1:Below w14.heap.size w14 w16:=hx0.trans (hb.mono hx0.size);clear hb;obtain ⟨k1_0,k1_1,k1_2,k1_3,k1_4,k1_5,k1_6,k1_7,k1_8,k1_9,k1_10,k1_11,k1_12,_⟩:=Q14 (W:=w16) (Q0u HA.out hx1);have k1_13:w16.cell? ⟨w.heap.size+1,0,none⟩=some (.int .i64 a):=(hx1.cell (p:=⟨w.heap.size+1,0,none⟩) HD).trans bxfc0;have k1_14:w16.cell? ⟨w.heap.size+1,1,none⟩=some (.int .i64 p):=(hx1.cell (p:=⟨w.heap.size+1,1,none⟩) HD).trans bxfc1)|(go_at_call 31;refine (HI.out _ _ _ w16 rd2 sz2).mono ?_;rintro e w17 ⟨vh,rfl,inh,hb⟩;have szh:=hb.size;have svh:=hx1.size;have hx2:Below w14.heap.size w14 w17:=hx1.trans (hb.mono hx1.size);clear hb;obtain ⟨k2_0,k2_1,k2_2,k2_3,k2_4,k2_5,k2_6,k2_7,k2_8,k2_9,k2_10,k2_11,k2_12,_⟩:=Q14 (W:=w17) (Q0u HA.out hx2);have k2_13:w17.cell? ⟨w.heap.size+1,0,none⟩=some (.int .i64 a):=(hx2.cell (p:=⟨w.heap.size+1,0,none⟩) HD).trans bxfc0;have k2_14:w17.cell? ⟨w.heap.size+1,1,none⟩=some (.int .i64 p):=(hx2.cell (p:=⟨w.heap.size+1,1,none⟩) HD).trans bxfc1))
  clear k0_0 k0_1 k0_2 k0_3 k0_4 k0_5 k0_6 k0_7 k0_8 k0_9 k0_10 k0_11 k0_12 k0_13 k0_14
  clear k1_0 k1_1 k1_2 k1_3 k1_4 k1_5 k1_6 k1_7 k1_8 k1_9 k1_10 k1_11 k1_12 k1_13 k1_14
  clear k2_0 k2_1 k2_2 k2_3 k2_4 k2_5 k2_6 k2_7 k2_8 k2_9 k2_10 k2_11 k2_12 k2_13 k2_14
  clear d_0 d_1 d_2 d_3 d_4 d_5 d_6 d_7 d_8 d_9 d_10 d_11 d_12 d_13 d_14
  clear hL HD hx0 hx1
  clear bxac0 bxac1 bxac2 bxac3 bxac4 bxac5 bxac6 bxac7 bxac8 bxac9 bxac10 bxac11 bxac12
  clear bxfc0 bxfc1
  have bxa:=HA.out
  clear HA
  have bxf:=HE.out
  clear HE
  have inw:=HM.out
  clear HM
  have ing:=HP.out
  clear HP
  have B_w14:=HU.out
  clear HU
  replace bxa:=(hx2.block _ (by omega)).trans bxa
  replace bxf:=(hx2.block _ (by omega)).trans bxf
  replace inw:=inw.step (Stp.of (lo:=0) (hi:=0) hx2) (.inl (Kcq _))
  replace ing:=ing.step (Stp.of (lo:=0) (hi:=0) hx2) (.inl (Kcq _))
  have B_w17:Below w.heap.size w w17:=B_w14.trans (hx2.mono B_w14.size)
  have hs_w17:w14.heap.size≤w17.heap.size:=hx2.size
  clear hx2 B_w14
  clear rd2 sz2 in2
  have HA:=Q00 bxa
  clear bxa
  have HE:=Q00 bxf
  clear bxf
  have HM:=Q00 inw
  clear inw
  have HP:=Q00 ing
  clear ing
  have Hinh:=Q00 inh
  clear inh
  have HU:=Q00 B_w17
  clear B_w17
  go_wp2_with fail
  have bxa:=HA.out
  clear HA
  have bxf:=HE.out
  clear HE
  have inw:=HM.out
  clear HM
  have ing:=HP.out
  clear HP
  have inh:=Hinh.out
  clear Hinh
  have B_w17:=HU.out
  clear HU
  refine (Q62 _ _ mr w17 ((InL.rd (L:=Q1q) inh).le (by omega)) ((InL.rd (L:=Q1q) inw).le (by omega)) (by omega)).mono ?_
  rintro e w18 ⟨rfl,hA⟩
  replace bxa:=(hA.block _ (by omega)).trans bxa
  replace bxf:=(hA.block _ (by omega)).trans bxf
  replace inw:=inw.step (Stp.of (lo:=0) (hi:=0) hA) (.inl (Kcq _))
  replace ing:=ing.step (Stp.of (lo:=0) (hi:=0) hA) (.inl (Kcq _))
  replace inh:=inh.step (Stp.of (lo:=0) (hi:=0) hA) (.inl (Kcq _))
  have B_w18:Below w.heap.size w w18:=B_w17.trans (hA.mono B_w17.size)
  have hs_w18:w17.heap.size≤w18.heap.size:=hA.size
  clear hA B_w17
  clear inh
  have HA:=Q00 bxa
  clear bxa
  have HE:=Q00 bxf
  clear bxf
  have HM:=Q00 inw
  clear inw
  have HP:=Q00 ing
  clear ing
  have HU:=Q00 B_w18
  clear B_w18
  go_wp2_with fail
  have bxa:=HA.out
  clear HA
  have bxf:=HE.out
  clear HE
  have inw:=HM.out
  clear HM
  have ing:=HP.out
  clear HP
  have B_w18:=HU.out
  clear HU
  refine (Q5J _ mr.length w18.heap.size 1 w18 ((InL.rd (L:=Q1q) ing).le (by omega)) (by omega) (by omega) (by omega)).mono ?_
  rintro e _ ⟨rfl,rfl⟩
  have HA:=Q00 bxa
  clear bxa
  have HE:=Q00 bxf
  clear bxf
  have HM:=Q00 inw
  clear inw
  have HP:=Q00 ing
  clear ing
  have HU:=Q00 B_w18
  clear B_w18
  go_wp2
  go_ret
  exact ⟨rfl,HU.out⟩
theorem Q4N (v:Value) (m:Km) (a p:Int) (w:World) (hR:RdKm w.heap.size w v m) (hl:Qf8 m):
  Calls Tryz.prog 8 #[v,Q6O a p] w fun e w'=> e=.returned (.bool true)∧Below w.heap.size w w':=Q57 v m a p w hR hl
end Go.Proofs.YtgplppfbinfelaaGreat
