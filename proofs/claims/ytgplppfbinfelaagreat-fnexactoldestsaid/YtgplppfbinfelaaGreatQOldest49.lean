/- Several texts in one: SKI4, SKI5, SKI6, SKOld, OldestW. -/
import Derived.Test.YtgplppfbinfelaaGreatQOldest47
import Derived.Test.YtgplppfbinfelaaGreatQOldest48
namespace Go.Proofs.YtgplppfbinfelaaGreat
open Go.ChangeShapes Go.WideShapes Go.ChangeAt Go.RowKit Go.Joins
set_option linter.unusedVariables false
set_option linter.unusedSimpArgs false
set_option maxRecDepth 100000
set_option maxHeartbeats 40000000
theorem appGt:AppOk layGt 54 98:=⟨Tryz.underlying54,⟨_,_,infoGt,rfl,by decide⟩,by decide,fun a u hu=> by
 simp [layGt] at hu
 rcases hu with rfl|rfl|rfl|rfl <;> rfl⟩
def gotsB (xs:List Gt):Bool:=decide (xs.length≤1000) && (List.range xs.length).all (gtF xs)
theorem gotFrom_any (v:Value) (xs:List Gt) (w:World) (hR:RdV layGt w.heap.size w v xs) (hcap:capV v) (hlen:xs.length≤1048576):
  Calls Tryz.prog 104 #[v] w fun e w'=> ∃o n c,e=.returned (.tuple #[.slice o n c,.bool (gotsB xs)])∧(gotsB xs=true→InL layGt 98 w.heap.size w'.heap.size w' (.slice o n c) xs)∧Below w.heap.size w w':=by
 obtain ⟨o,cap,rfl,rd⟩:=hR
 obtain ⟨n,hn⟩:∃q,xs.length=q:=⟨_,rfl⟩
 have HN:=hide hn
 have HRD:=hide rd
 have hnil:o=none→cap=0:=fun e=> hcap _ _ (by rw [e])
 clear hcap rd
 rw [hn] at hlen ⊢
 clear hn
 by_cases h6:(1000:Int) < (n:Int)
 ·have HNO:Hid (gotsB xs=false):=by unfold Hid gotsB;rw [HN.out];simp;omega
  go_enter Tryz.func104,Tryz.ntmps104
  go_wp2
  refine bodyPost_ret (v:=.tuple #[.slice none 0 0,.bool false]) (by simp [results,Tryz.results104,go_sem]) rfl ⟨none,0,0,by rw [HNO.out],fun e=> absurd e (by rw [HNO.out];simp),Below.refl _ _⟩
 have HB6:Hid (∀k,k < n→gtF xs k=false→gotsB xs=false):=fun k hk hf=> by unfold gotsB;rw [allTo_no (by rw [HN.out];exact hk) hf];simp
 have HY6:Hid ((List.range n).all (gtF xs)=true→gotsB xs=true):=fun hf=> by unfold gotsB;rw [HN.out,hf];simp;omega
 go_enter Tryz.func104,Tryz.ntmps104
 go_wp2
 go_loopw [11] (fun iv wr=> ∃(k:Nat),k≤n∧iv=.int .i64 (k:Int)∧Hid ((List.range k).all (gtF xs)=true)∧Hid (Below w.heap.size w wr))
  (fun iv _=> n - (intOf iv).toNat)
 case atStart=> exact ⟨0,Nat.zero_le _,rfl,rfl,Below.refl _ _⟩
 case round=>
  obtain ⟨k,hk8,rfl,HAL,HBr⟩:=hrel
  by_cases hlt:k < n
  ·have z1:(k:Int) < (n:Int):=by omega
   obtain ⟨a,ha⟩:∃a,xs.getD k gt0=a:=⟨_,rfl⟩
   have HF:=hide (show gtF xs k=gotM a by unfold gtF;rw [ha])
   rcases HRD.out with rg|⟨b,off,ho,hb,rg⟩
   ·have:=HN.out;rw [rg] at this;simp at this;omega
   subst ho
   obtain ⟨p0,p1,p2,p3⟩:=RdL.gt (C:=w.heap.size) rg k (by rw [HN.out];exact hlt)
   rw [ha] at p0 p1 p2 p3
   replace p0:=bCM HBr.out p0 hb
   replace p1:=bCM HBr.out p1 hb
   replace p2:=bCM HBr.out p2 hb
   replace p3:=bCM HBr.out p3 hb
   have hb1:Below wr.heap.size wr (wr.alloc (.cells #[.int .i64 a.a,.int .i64 a.p,.int .i64 a.bk,.int .i64 a.sq] 98)):=(Below.refl _ _).alloc (Nat.le_refl _) _
   have HB1:=hide hb1
   clear rg ha hb1 HRD
   go_wp2_with fail
   generalize wr.alloc (.cells #[.int .i64 a.a,.int .i64 a.p,.int .i64 a.bk,.int .i64 a.sq] 98)=w1 at *
   refine (gotOk_any a.a a.p a.bk a.sq w1).mono ?_
   rintro e w2 ⟨rfl,hb2⟩
   have HB2:=hide (HBr.out.trans ((HB1.out.trans (hb2.mono HB1.out.size)).mono HBr.out.size))
   obtain ⟨G,hG⟩:∃G,(flowOkB a.a a.p && decide (0≤a.bk) && decide (a.bk < 6) && decide (0≤a.sq) && decide (a.sq≤65535))=G:=⟨_,rfl⟩
   have HG:=hide (show gotM a=G from hG)
   rw [hG]
   clear hG hb2 p0 p1 p2 p3
   cases G with
   |false=>
    have HNO:=hide (HB6.out k hlt (by rw [HF.out,HG.out]))
    go_wp2
    refine bodyPost_ret (v:=.tuple #[.slice none 0 0,.bool false]) (by simp [results,Tryz.results104,go_sem]) rfl ⟨none,0,0,by rw [HNO.out],fun e=> absurd e (by rw [HNO.out];simp),HB2.out⟩
   |true=>
    have HS:Hid ((List.range (k+1)).all (gtF xs)=true):=by unfold Hid;rw [allTo_succ,HAL.out,HF.out,HG.out];rfl
    go_wp2
    go_roundw
    case rel=> first
     |exact ⟨k+1,by omega,by go_num,HS.out,HB2.out⟩
     |(refine ⟨_, ?_,rfl⟩;exact ⟨k+1,by omega,by go_num,HS.out,HB2.out⟩)
    case measure=> simp [intOf];omega
  ·have e:k=n:=by omega
   subst e
   have hy:=hide (HY6.out HAL.out)
   go_wp2_with (at_builtin;refine wpList_append_lay appGt rfl _ _ rfl w.heap.size _ [] rfl (World.ownsRow_nil _ _ _ _) o cap w.heap.size xs k HN.out.symm rfl hnil ?c0 ?c1 ?c2 ?_)
   case c0=> exact HRD.out.kept HBr.out (Nat.le_refl _)
   case c1=> have:=HN.out;simp;omega
   case c2=> exact HBr.out.size
   intro v2 w6 hv2 hg2 _
   replace hv2:ownL layGt 98 w6 w.heap.size v2 xs:=by simpa using hv2
   have HV:=hide (InRow.of hv2)
   have HB6':=hide (HBr.out.grown hg2 HBr.out.size (fun k h=> by cases h))
   obtain ⟨o2,c2,rfl,_⟩:=InL.rd (L:=layGt) HV.out
   have hn:=HN.out
   clear hv2 hg2
   go_wp2
   refine bodyPost_ret (v:=.tuple #[.slice o2 xs.length c2,.bool true]) (by simp [results,Tryz.results104,go_sem]) rfl ⟨_,_,_,by rw [hy.out],fun _=> HV.out,HB6'.out⟩
end Go.Proofs.YtgplppfbinfelaaGreat
namespace Go.Proofs.YtgplppfbinfelaaGreat
open Go.ChangeShapes Go.WideShapes Go.ChangeAt Go.RowKit Go.Joins
set_option linter.unusedVariables false
set_option linter.unusedSimpArgs false
set_option maxRecDepth 100000
set_option maxHeartbeats 40000000
theorem appMh:AppOk layMh 53 96:=⟨Tryz.underlying53,⟨_,_,infoM,rfl,by decide⟩,by decide,fun a u hu=> by
 simp [layMh] at hu
 rcases hu with rfl|rfl|rfl|rfl|rfl|rfl|rfl|rfl|rfl|rfl|rfl|rfl <;> rfl⟩
theorem neUG:(5:TypeId)≠231:=by decide
section
variable {η α:Type}
theorem RwE.grow {E:El η α} {xs:List α} {a b:Nat} {w w':World} {hs:List η} {L H:Nat→Nat} {r:Option Nat} (h:RwE E xs a b w hs L H) (hg:w.grownBy w' r) (hd:∀i,i < xs.length→∀g,r=some g→g < L i∨H i≤g):RwE E xs a b w' hs L H:=by
 refine ⟨h.len,h.bd,h.sep,fun i hi=> ?_⟩
 cases r with
 |none=> exact E.qs.go (h.row i hi) (Stp.grown (lo:=0) (hi:=0) hg (fun b e=> by cases e)) (.inl (Nat.zero_le _))
 |some g=> exact E.qs.go (h.row i hi) (Stp.grown (lo:=g) (hi:=g+1) hg (fun b e=> by cases e;omega)) (by have:=hd i hi g rfl;omega)
theorem RwE.more {E:El η α} {v1 w8:World} {mid b0 l2 n:Nat} {hs:List η} {L H:Nat→Nat} {xs:List α} {x:α} {y:η} {oQ:Option Addr} {cQ:Nat} {O:Obj} (h:RwE E xs mid b0 v1 hs L H) (hxn:xs.length=n) (hb:b0≤l2) (hm:mid≤l2) (hl:l2≤v1.heap.size) (q:E.Q l2 v1.heap.size v1 (E.val y) x) (hout:outB (.slice oQ n cQ) n L H) (hlt:∀g,(Value.slice oQ n cQ).ownBlock=some g→g < b0) (hg:(v1.alloc O).grownBy w8 (Value.slice oQ n cQ).ownBlock):
  RwE E (xs++[x]) mid w8.heap.size w8 (hs++[y]) (fun i=> if i < n then L i else l2) (fun i=> if i < n then H i else v1.heap.size):=by
 subst hxn
 have h1:=h.snoc hb hm hl q
 have h2:=h1.kept ((Below.refl v1.heap.size v1).alloc (Nat.le_refl _) O)
 have hsz:=hg.size
 rw [World.size_alloc] at hsz
 refine (h2.grow hg (fun i hi g e=> ?_)).mono (Nat.le_refl _) (by omega)
 by_cases hi':i < xs.length
 ·simp only [hi',if_true];exact hout i hi' g e
 ·simp only [hi',if_false];have:=hlt g e;omega
theorem outE_more {v1:World} {b0 l2:Nat} {L H:Nat→Nat} {n:Nat} {oQ o8:Option Addr} {cQ c8:Nat} (hout:outB (.slice oQ n cQ) n L H) (hH:∀i,i < n→H i≤b0) (hb:b0≤l2) (hl:l2≤v1.heap.size) (hlt:∀g,(Value.slice oQ n cQ).ownBlock=some g→g < b0) (hn:(Value.slice o8 (n+1) c8).ownBlock=(Value.slice oQ n cQ).ownBlock∨(Value.slice o8 (n+1) c8).ownBlock=some (v1.heap.size+1)):
  outB (.slice o8 (n+1) c8) (n+1) (fun i=> if i < n then L i else l2) (fun i=> if i < n then H i else v1.heap.size):=fun i hi g e=> by
 rcases hn with hn|hn
 ·rw [hn] at e
  by_cases hi':i < n
  ·simp only [hi',if_true];exact hout i hi' g e
  ·simp only [hi',if_false];have:=hlt g e;omega
 ·rw [hn] at e
  have e':v1.heap.size+1=g:=Option.some.inj e
  by_cases hi':i < n
  ·simp only [hi',if_true];have:=hH i hi';omega
  ·simp only [hi',if_false];omega
theorem InE.at {E:El η α} {T:TypeId} {lo hi:Nat} {w:World} {o:Option Addr} {n c:Nat} {xs:List α} (h:InE E T lo hi w (.slice o n c) xs) (i:Nat) (hi':i < xs.length):
  ∃b off y l1 h1,o=some ⟨b,off,none⟩∧b < hi∧(∀j,j < E.L.k→w.cell? ⟨b,off+i * E.L.k+j,none⟩=(E.L.cs y)[j]?)∧lo≤l1∧h1≤hi∧E.Q l1 h1 w (E.val y) (xs.getD i E.d):=by
 obtain ⟨hs,L,H,h0,h1,h2⟩:=h
 obtain ⟨o1,c1,e,r⟩:=(InRow.ri h0).open
 injection e with e1 e2 e3
 subst e1
 have hl:=h1.len
 rcases r with r|⟨b,off,ho,hb,r⟩
 ·subst r;simp at hl;omega
 ·exact ⟨b,off,hs.getD i E.L.d,L i,H i,ho,hb,r i (by omega),(h1.bd i hi').1,(h1.bd i hi').2,h1.row i hi'⟩
end
theorem InE.mail {lo hi:Nat} {w:World} {o:Option Addr} {n c:Nat} {xs:List Mm} (h:InE elM 96 lo hi w (.slice o n c) xs) (i:Nat) (hi':i < xs.length) {m:Mm} (hm:xs.getD i mmD=m):
  ∃b off o1 c1 o2 c2,o=some ⟨b,off,none⟩∧b < hi∧w.cell? ⟨b,off+i * 12,none⟩=some (.int .i64 m.k)∧w.cell? ⟨b,off+i * 12+1,none⟩=some (.int .i64 m.c.a)∧w.cell? ⟨b,off+i * 12+2,none⟩=some (.int .i64 m.c.b)∧w.cell? ⟨b,off+i * 12+3,none⟩=some (.int .i64 m.c.f)∧w.cell? ⟨b,off+i * 12+4,none⟩=some (.int .i64 m.c.s)∧w.cell? ⟨b,off+i * 12+5,none⟩=some (.slice o1 m.c.l.length c1)∧w.cell? ⟨b,off+i * 12+6,none⟩=some (.slice o2 m.c.g.length c2)∧w.cell? ⟨b,off+i * 12+7,none⟩=some (.int .i64 m.c.pl)∧w.cell? ⟨b,off+i * 12+8,none⟩=some (.int .i64 m.c.st)∧w.cell? ⟨b,off+i * 12+9,none⟩=some (.int .i64 m.fa)∧w.cell? ⟨b,off+i * 12+10,none⟩=some (.int .i64 m.fp)∧w.cell? ⟨b,off+i * 12+11,none⟩=some (.int .i64 m.bk)∧RdL layB hi w o1 m.c.l∧(o1=none→c1=0)∧RdL layG hi w o2 m.c.g∧(o2=none→c2=0):=by
 obtain ⟨b,off,y,l1,h1,rfl,hb,hc,k1,k2,hr⟩:=h.at i hi'
 rw [show xs.getD i elM.d=m from hm] at hr
 obtain ⟨v1,v2,a,b',a',b'',e,kk,i1,i2,_⟩:=hr
 obtain ⟨o1,c1,rfl,r1⟩:=InL.rd i1
 obtain ⟨o2,c2,rfl,r2⟩:=InL.rd i2
 have e':Value.agg #[.int .i64 y.k,.int .i64 y.a,.int .i64 y.b,.int .i64 y.f,.int .i64 y.s,.slice y.l.1 y.l.2.1 y.l.2.2,.slice y.g.1 y.g.2.1 y.g.2.2,.int .i64 y.pl,.int .i64 y.st,.int .i64 y.fa,.int .i64 y.fp,.int .i64 y.bk]=Value.agg #[.int .i64 m.k,.int .i64 m.c.a,.int .i64 m.c.b,.int .i64 m.c.f,.int .i64 m.c.s,.slice o1 m.c.l.length c1,.slice o2 m.c.g.length c2,.int .i64 m.c.pl,.int .i64 m.c.st,.int .i64 m.fa,.int .i64 m.fp,.int .i64 m.bk]:=e
 simp only [Value.agg.injEq,Array.mk.injEq,List.cons.injEq,and_true] at e'
 obtain ⟨e0,e1,e2,e3,e4,e5,e6,e7,e8,e9,e10,e11⟩:=e'
 have h0:w.cell? ⟨b,off+i * 12,none⟩=some _:=hc 0 (by decide)
 rw [e0] at h0
 have h1:w.cell? ⟨b,off+i * 12+1,none⟩=some _:=hc 1 (by decide)
 rw [e1] at h1
 have h2:w.cell? ⟨b,off+i * 12+2,none⟩=some _:=hc 2 (by decide)
 rw [e2] at h2
 have h3:w.cell? ⟨b,off+i * 12+3,none⟩=some _:=hc 3 (by decide)
 rw [e3] at h3
 have h4:w.cell? ⟨b,off+i * 12+4,none⟩=some _:=hc 4 (by decide)
 rw [e4] at h4
 have h5:w.cell? ⟨b,off+i * 12+5,none⟩=some _:=hc 5 (by decide)
 rw [e5] at h5
 have h6:w.cell? ⟨b,off+i * 12+6,none⟩=some _:=hc 6 (by decide)
 rw [e6] at h6
 have h7:w.cell? ⟨b,off+i * 12+7,none⟩=some _:=hc 7 (by decide)
 rw [e7] at h7
 have h8:w.cell? ⟨b,off+i * 12+8,none⟩=some _:=hc 8 (by decide)
 rw [e8] at h8
 have h9:w.cell? ⟨b,off+i * 12+9,none⟩=some _:=hc 9 (by decide)
 rw [e9] at h9
 have h10:w.cell? ⟨b,off+i * 12+10,none⟩=some _:=hc 10 (by decide)
 rw [e10] at h10
 have h11:w.cell? ⟨b,off+i * 12+11,none⟩=some _:=hc 11 (by decide)
 rw [e11] at h11
 exact ⟨b,off,o1,c1,o2,c2,rfl,hb,h0,h1,h2,h3,h4,h5,h6,h7,h8,h9,h10,h11,r1.le (by omega),fun q=> i1.cap _ _ (by rw [q]),r2.le (by omega),fun q=> i2.cap _ _ (by rw [q])⟩
theorem rd_oneM (w:World) (y:Mh) (T:TypeId):RdL layMh (w.alloc (.cells (layMh.cs y).toArray T)).heap.size (w.alloc (.cells (layMh.cs y).toArray T)) (some ⟨w.heap.size,0,none⟩) [y]:=by
 refine .inr ⟨w.heap.size,0,rfl,by simp,fun i hi j hj=> ?_⟩
 have hi0:i=0:=by simpa using hi
 subst hi0
 have hj':j=0∨j=1∨j=2∨j=3∨j=4∨j=5∨j=6∨j=7∨j=8∨j=9∨j=10∨j=11:=by have:j < 12:=hj;omega
 rcases hj' with rfl|rfl|rfl|rfl|rfl|rfl|rfl|rfl|rfl|rfl|rfl|rfl <;> simp [go_sem,layMh]
def bagB (now:Int) (xs:List Mm):Bool:=decide (xs.length≤60) && (List.range xs.length).all (mlF now xs)
theorem bagFrom_any (lo hi:Nat) (v:Value) (xs:List Mm) (now:Int) (w:World) (hR:InE elM 96 lo hi w v xs) (hh:hi≤w.heap.size) (hlen:xs.length≤1048576) (hx:∀i,i < xs.length→fitCm (xs.getD i mmD).c):
  Calls Tryz.prog 103 #[v,.int .i64 now] w fun e w'=> ∃o n c,e=.returned (.tuple #[.slice o n c,.bool (bagB now xs)])∧(bagB now xs=true→InE elM 96 w.heap.size w'.heap.size w' (.slice o n c) xs)∧Below w.heap.size w w':=by
 obtain ⟨o,cap,rfl⟩:=hR.ri.len
 obtain ⟨n,hn⟩:∃q,xs.length=q:=⟨_,rfl⟩
 have HN:=hide hn
 have HRD:=hide hR
 have HX:=hide hx
 have HH:=hide hh
 have HLEN:=hide hlen
 rw [hn] at HRD ⊢
 clear hn hR hx hh hlen
 by_cases h6:(60:Int) < (n:Int)
 ·have HNO:Hid (bagB now xs=false):=by unfold Hid bagB;rw [HN.out];simp;omega
  go_enter Tryz.func103,Tryz.ntmps103
  go_wp2
  refine bodyPost_ret (v:=.tuple #[.slice none 0 0,.bool false]) (by simp [results,Tryz.results103,go_sem]) rfl ⟨none,0,0,by rw [HNO.out],fun e=> absurd e (by rw [HNO.out];simp),Below.refl _ _⟩
 have HB6:Hid (∀k,k < n→mlF now xs k=false→bagB now xs=false):=fun k hk hf=> by unfold bagB;rw [allTo_no (by rw [HN.out];exact hk) hf];simp
 have HY6:Hid ((List.range n).all (mlF now xs)=true→bagB now xs=true):=fun hf=> by unfold bagB;rw [HN.out,hf];simp;omega
 go_enter Tryz.func103,Tryz.ntmps103
 go_wp2
 go_loopw [6,14] (fun bv iv wr=> ∃(k:Nat) (hs:List Mh) (L H:Nat→Nat) (oQ:Option Addr) (cQ:Nat),k≤n∧iv=.int .i64 (k:Int)∧bv=.slice oQ k cQ∧Hid ((List.range k).all (mlF now xs)=true)∧Hid (ownL layMh 96 wr w.heap.size (.slice oQ k cQ) hs)∧Hid (RwE elM (xs.take k) w.heap.size wr.heap.size wr hs L H)∧Hid (outB (.slice oQ k cQ) k L H)∧Hid (Below w.heap.size w wr))
  (fun _ iv _=> n - (intOf iv).toNat)
 case atStart=> exact ⟨0,[],fun _=> 0,fun _=> 0,none,0,Nat.zero_le _,rfl,rfl,rfl,World.ownsRow_nil _ _ _ _,by rw [List.take_zero];exact RwE.nil _ _ _ _ _ _,fun i h=> absurd h (Nat.not_lt_zero _),Below.refl _ _⟩
 case round=>
  obtain ⟨k,hs,L,H,oQ,cQ,hk8,rfl,rfl,HAL,HO,HR,HOUT,HBr⟩:=hrel
  have HHL:Hid (hs.length=k):=by have h1:=HR.out.len;rw [List.length_take,HN.out] at h1;unfold Hid;omega
  by_cases hlt:k < n
  ·have z1:(k:Int) < (n:Int):=by omega
   obtain ⟨m,hm⟩:∃m,xs.getD k mmD=m:=⟨_,rfl⟩
   have HS:=hide (takeE_snoc (xs:=xs) mmD (by rw [HN.out];exact hlt))
   have hfit:=HX.out k (by rw [HN.out];exact hlt)
   rw [hm] at HS hfit
   have HML:=hide (show mlF now xs k=(mailM m && decide (m.c.st≤now)) by unfold mlF;rw [hm])
   obtain ⟨b,off,o1,c1,o2,c2,rfl,hbl,p0,p1,p2,p3,p4,p5,p6,p7,p8,p9,p10,p11,r1,n1,r2,n2⟩:=InE.mail HRD.out k (by rw [HN.out];exact hlt) hm
   have hbl':=Nat.lt_of_lt_of_le hbl HH.out
   replace p0:=bCM HBr.out p0 hbl'
   replace p1:=bCM HBr.out p1 hbl'
   replace p2:=bCM HBr.out p2 hbl'
   replace p3:=bCM HBr.out p3 hbl'
   replace p4:=bCM HBr.out p4 hbl'
   replace p5:=bCM HBr.out p5 hbl'
   replace p6:=bCM HBr.out p6 hbl'
   replace p7:=bCM HBr.out p7 hbl'
   replace p8:=bCM HBr.out p8 hbl'
   replace p9:=bCM HBr.out p9 hbl'
   replace p10:=bCM HBr.out p10 hbl'
   replace p11:=bCM HBr.out p11 hbl'
   have HRR:=hide (fun W (hb:Below w.heap.size w W)=> And.intro ((r1.kept hb HH.out).le (Nat.le_trans HH.out hb.size)) ((r2.kept hb HH.out).le (Nat.le_trans HH.out hb.size)))
   have HNIL:=hide (And.intro n1 n2)
   have HFIT:=hide hfit
   have HM1:=hide (fun W (hb:Below w.heap.size w W)=> mailOkBy_any (mlv m.k m.c.a m.c.b m.c.f m.c.s (.slice o1 m.c.l.length c1) (.slice o2 m.c.g.length c2) m.c.pl m.c.st m.fa m.fp m.bk) m now W ⟨_,_,rfl,⟨_,_,rfl,(HRR.out W hb).1⟩,⟨_,_,rfl,(HRR.out W hb).2⟩⟩ HFIT.out)
   have HM2:=hide (fun W (hb:Below w.heap.size w W)=> cloneMail_any m.k m.c.a m.c.b m.c.f m.c.s o1 o2 c1 c2 m.c.l m.c.g m.c.pl m.c.st m.fa m.fp m.bk W (RdB_rd.1 (HRR.out W hb).1) HNIL.out.1 (by have:=HFIT.out.1;omega) (RdG_rd.1 (HRR.out W hb).2) HNIL.out.2 (by have:=HFIT.out.1;omega))
   clear hm hfit r1 n1 r2 n2
   obtain ⟨B,hB⟩:∃B,mailM m=B:=⟨_,rfl⟩
   rw [hB] at HML
   replace HM1:=hide (show ∀W,Below w.heap.size w W→Calls Tryz.prog 162 #[mlv m.k m.c.a m.c.b m.c.f m.c.s (.slice o1 m.c.l.length c1) (.slice o2 m.c.g.length c2) m.c.pl m.c.st m.fa m.fp m.bk,.int .i64 now] W fun e w'=> e=.returned (.bool (B && decide (m.c.st≤now)))∧Below W.heap.size W w' from hB ▸ HM1.out)
   clear hB
   obtain ⟨q1,hq1⟩:∃q,m.c.l.length=q:=⟨_,rfl⟩
   obtain ⟨q2,hq2⟩:∃q,m.c.g.length=q:=⟨_,rfl⟩
   have HQ:=hide (And.intro hq1 hq2)
   rw [hq1] at p5
   rw [hq2] at p6
   rw [hq1,hq2] at HM1 HM2
   obtain ⟨B2,hB2⟩:∃B2,(B && decide (m.c.st≤now))=B2:=⟨_,rfl⟩
   rw [hB2] at HM1 HML
   clear hB2 hq1 hq2 HRR
   have hb1:Below wr.heap.size wr (wr.alloc (.cells #[.int .i64 m.k,.int .i64 m.c.a,.int .i64 m.c.b,.int .i64 m.c.f,.int .i64 m.c.s,.slice o1 q1 c1,.slice o2 q2 c2,.int .i64 m.c.pl,.int .i64 m.c.st,.int .i64 m.fa,.int .i64 m.fp,.int .i64 m.bk] 96)):=(Below.refl _ _).alloc (Nat.le_refl _) _
   have bx:=World.alloc_heap_new wr (.cells #[.int .i64 m.k,.int .i64 m.c.a,.int .i64 m.c.b,.int .i64 m.c.f,.int .i64 m.c.s,.slice o1 q1 c1,.slice o2 q2 c2,.int .i64 m.c.pl,.int .i64 m.c.st,.int .i64 m.fa,.int .i64 m.fp,.int .i64 m.bk] 96)
   have HB1:=hide hb1
   have HBX:=hide bx
   clear hb1 bx
   go_wp2_with fail
   generalize wr.alloc (.cells #[.int .i64 m.k,.int .i64 m.c.a,.int .i64 m.c.b,.int .i64 m.c.f,.int .i64 m.c.s,.slice o1 q1 c1,.slice o2 q2 c2,.int .i64 m.c.pl,.int .i64 m.c.st,.int .i64 m.fa,.int .i64 m.fp,.int .i64 m.bk] 96)=w1 at *
   refine (HM1.out w1 (HBr.out.trans (HB1.out.mono HBr.out.size))).mono ?_
   rintro e w2 ⟨rfl,hb2⟩
   have HB12:=hide (HB1.out.trans (hb2.mono HB1.out.size))
   have HB2:=hide (HBr.out.trans (HB12.out.mono HBr.out.size))
   cases B2 with
   |false=>
    have HNO:=hide (HB6.out k hlt (by rw [HML.out]))
    clear hb2 p0 p1 p2 p3 p4 p5 p6 p7 p8 p9 p10 p11
    go_wp2
    refine bodyPost_ret (v:=.tuple #[.slice none 0 0,.bool false]) (by simp [results,Tryz.results103,go_sem]) rfl ⟨none,0,0,by rw [HNO.out],fun e=> absurd e (by rw [HNO.out];simp),HB2.out⟩
   |true=>
    have bx2:=hp_on' HBX.out hb2
    have s12:=hb2.size
    clear hb2 p0 p1 p2 p3 p4 p5 p6 p7 p8 p9 p10 p11
    have y0:w2.cell? ⟨wr.heap.size,0,none⟩=some (.int .i64 m.k):=block_cell bx2 0 _ rfl
    have y1:w2.cell? ⟨wr.heap.size,1,none⟩=some (.int .i64 m.c.a):=block_cell bx2 1 _ rfl
    have y2:w2.cell? ⟨wr.heap.size,2,none⟩=some (.int .i64 m.c.b):=block_cell bx2 2 _ rfl
    have y3:w2.cell? ⟨wr.heap.size,3,none⟩=some (.int .i64 m.c.f):=block_cell bx2 3 _ rfl
    have y4:w2.cell? ⟨wr.heap.size,4,none⟩=some (.int .i64 m.c.s):=block_cell bx2 4 _ rfl
    have y5:w2.cell? ⟨wr.heap.size,5,none⟩=some (.slice o1 q1 c1):=block_cell bx2 5 _ rfl
    have y6:w2.cell? ⟨wr.heap.size,6,none⟩=some (.slice o2 q2 c2):=block_cell bx2 6 _ rfl
    have y7:w2.cell? ⟨wr.heap.size,7,none⟩=some (.int .i64 m.c.pl):=block_cell bx2 7 _ rfl
    have y8:w2.cell? ⟨wr.heap.size,8,none⟩=some (.int .i64 m.c.st):=block_cell bx2 8 _ rfl
    have y9:w2.cell? ⟨wr.heap.size,9,none⟩=some (.int .i64 m.fa):=block_cell bx2 9 _ rfl
    have y10:w2.cell? ⟨wr.heap.size,10,none⟩=some (.int .i64 m.fp):=block_cell bx2 10 _ rfl
    have y11:w2.cell? ⟨wr.heap.size,11,none⟩=some (.int .i64 m.bk):=block_cell bx2 11 _ rfl
    go_wp2_with fail
    refine (HM2.out w2 HB2.out).mono ?_
    rintro e w3 ⟨p1,d1,p2,d2,rfl,hv1,hv2,hb3⟩
    have HB3:=hide (HB2.out.trans (hb3.mono HB2.out.size))
    have HB23:=hide (HB12.out.trans (hb3.mono HB12.out.size))
    have s3:=hb3.size
    have HV:=hide (show elM.Q w2.heap.size w3.heap.size w3 (elM.val (⟨m.k,m.c.a,m.c.b,m.c.f,m.c.s,(p1,q1,d1),(p2,q2,d2),m.c.pl,m.c.st,m.fa,m.fp,m.bk⟩:Mh)) m from ⟨_,_,_,_,_,_,rfl,⟨Nat.le_refl _,Nat.le_refl _,Nat.le_refl _,Nat.le_refl _⟩,InRow.of (ownB_lay.1 hv1),InRow.of (ownG_lay.1 hv2),own_apart0 (ownB_lay.1 hv1) (ownG_lay.1 hv2) neUG⟩)
    have FO:=hide (World.ownsRow.alloc (own_kept HO.out HB23.out) (.cells #[.int .i64 m.k,.int .i64 m.c.a,.int .i64 m.c.b,.int .i64 m.c.f,.int .i64 m.c.s,.slice p1 q1 d1,.slice p2 q2 d2,.int .i64 m.c.pl,.int .i64 m.c.st,.int .i64 m.fa,.int .i64 m.fp,.int .i64 m.bk] 96))
    have FX:=hide (show RdL layMh (w3.alloc (.cells #[.int .i64 m.k,.int .i64 m.c.a,.int .i64 m.c.b,.int .i64 m.c.f,.int .i64 m.c.s,.slice p1 q1 d1,.slice p2 q2 d2,.int .i64 m.c.pl,.int .i64 m.c.st,.int .i64 m.fa,.int .i64 m.fp,.int .i64 m.bk] 96)).heap.size (w3.alloc (.cells #[.int .i64 m.k,.int .i64 m.c.a,.int .i64 m.c.b,.int .i64 m.c.f,.int .i64 m.c.s,.slice p1 q1 d1,.slice p2 q2 d2,.int .i64 m.c.pl,.int .i64 m.c.st,.int .i64 m.fa,.int .i64 m.fp,.int .i64 m.bk] 96)) (some ⟨w3.heap.size,0,none⟩) [(⟨m.k,m.c.a,m.c.b,m.c.f,m.c.s,(p1,q1,d1),(p2,q2,d2),m.c.pl,m.c.st,m.fa,m.fp,m.bk⟩:Mh)] from rd_oneM w3 (⟨m.k,m.c.a,m.c.b,m.c.f,m.c.s,(p1,q1,d1),(p2,q2,d2),m.c.pl,m.c.st,m.fa,m.fp,m.bk⟩:Mh) 96)
    have HSL:=hide (show (hs++[(⟨m.k,m.c.a,m.c.b,m.c.f,m.c.s,(p1,q1,d1),(p2,q2,d2),m.c.pl,m.c.st,m.fa,m.fp,m.bk⟩:Mh)]).length=k+1 by simp [HHL.out])
    have HAL2:Hid ((List.range (k+1)).all (mlF now xs)=true):=by unfold Hid;rw [allTo_succ,HAL.out,HML.out];rfl
    clear hv1 hv2 hb3 y0 y1 y2 y3 y4 y5 y6 y7 y8 y9 y10 y11 bx2
    go_wp2_with (at_builtin;refine wpList_append_lay appMh rfl _ _ rfl w.heap.size _ hs rfl FO.out (some ⟨w3.heap.size,0,none⟩) 1 _ [(⟨m.k,m.c.a,m.c.b,m.c.f,m.c.s,(p1,q1,d1),(p2,q2,d2),m.c.pl,m.c.st,m.fa,m.fp,m.bk⟩:Mh)] 1 rfl rfl (fun h=> by cases h) FX.out ?e2 ?e3 ?_)
    case e2=> have:=HHL.out;simp;omega
    case e3=> exact Nat.le_trans HB3.out.size (by simp)
    intro v8 w8 hv8 hg8 hn8
    obtain ⟨o8,c8,e8,_⟩:=InL.rd (L:=layMh) (InRow.of hv8)
    rw [HSL.out] at e8
    subst e8
    have hlt0:∀g,(Value.slice oQ k cQ).ownBlock=some g→g < wr.heap.size:=fun g e=> (HO.out.lt g e).2
    have hgt0:∀g,(Value.slice oQ k cQ).ownBlock=some g→w.heap.size≤g:=fun g e=> (HO.out.lt g e).1
    have htk:(xs.take k).length=k:=by rw [List.length_take,HN.out];omega
    have HRW:=hide (RwE.more (y:=(⟨m.k,m.c.a,m.c.b,m.c.f,m.c.s,(p1,q1,d1),(p2,q2,d2),m.c.pl,m.c.st,m.fa,m.fp,m.bk⟩:Mh)) (HR.out.kept HB23.out) htk HB12.out.size (Nat.le_trans HBr.out.size HB12.out.size) s3 HV.out HOUT.out hlt0 hg8)
    rw [←HS.out] at HRW
    have HO8:=hide (outE_more (l2:=w2.heap.size) HOUT.out (fun i hi=> (HR.out.bd i (by rw [htk];exact hi)).2) HB12.out.size s3 hlt0 hn8)
    have HB8:=hide ((HB3.out.alloc HB3.out.size _).grown hg8 (Nat.le_trans HB3.out.size (by simp)) hgt0)
    have HV8:=hide hv8
    clear hv8 hg8 hn8 hlt0 hgt0 htk
    go_wp2
    go_roundw
    case rel=> first
     |exact ⟨k+1,hs++[(⟨m.k,m.c.a,m.c.b,m.c.f,m.c.s,(p1,q1,d1),(p2,q2,d2),m.c.pl,m.c.st,m.fa,m.fp,m.bk⟩:Mh)],_,_,o8,c8,by omega,by go_num,rfl,HAL2.out,HV8.out,HRW.out,HO8.out,HB8.out⟩
     |(refine ⟨_, ?_,rfl⟩;exact ⟨k+1,hs++[(⟨m.k,m.c.a,m.c.b,m.c.f,m.c.s,(p1,q1,d1),(p2,q2,d2),m.c.pl,m.c.st,m.fa,m.fp,m.bk⟩:Mh)],_,_,o8,c8,by omega,by go_num,rfl,HAL2.out,HV8.out,HRW.out,HO8.out,HB8.out⟩)
    case measure=> simp [intOf];omega
  ·have e:k=n:=by omega
   subst e
   have hy:=hide (HY6.out HAL.out)
   have h2:=HR.out
   rw [show xs.take k=xs from by rw [←HN.out];exact List.take_length] at h2
   have HRW:=hide h2
   have h3:=HOUT.out
   rw [←HN.out] at h3
   have HO3:=hide h3
   clear h2 h3
   go_wp2
   refine bodyPost_ret (v:=.tuple #[.slice oQ k cQ,.bool true]) (by simp [results,Tryz.results103,go_sem]) rfl ⟨_,_,_,by rw [hy.out],fun _=> ⟨hs,L,H,InRow.of HO.out,HRW.out,by have h:=HO3.out;rw [HN.out] at h;rw [HN.out];exact h⟩,HBr.out⟩
end Go.Proofs.YtgplppfbinfelaaGreat
namespace Go.Proofs.YtgplppfbinfelaaGreat
open Go.ChangeShapes Go.WideShapes Go.ChangeAt Go.RowKit Go.Joins
set_option linter.unusedVariables false
set_option linter.unusedSimpArgs false
set_option maxRecDepth 100000
set_option maxHeartbeats 40000000
theorem InBl.step {a b lo hi:Nat} {w w':World} {v:Value} {j:Jm} {p:Pm} {t:List Sl} (h:InBl a b w v j p t) (s:Stp lo hi w w') (hd:hi≤a∨b≤lo):InBl a b w' v j p t:=by
 obtain ⟨vt,vl,vb,vr,x,y,e,k1,k2,k3,h1,h2,h3⟩:=h
 exact ⟨vt,vl,vb,vr,x,y,e,k1,k2,k3,h1.step s (by omega),InRow.step h2 s (by omega),h3.step s (by omega)⟩
def InKl (lo hi:Nat) (w:World) (P:Nat) (m:Km):Prop:=∃xo xn xc kq yo yn yc sq kr uo un uc vo vn vc pa la da pm lm dm pg lg dg b0 b1 a0 a1 m0 m1 g0 g1,w.heap[P]? =some (.cells #[.int .i64 m.now,.slice xo xn xc,.int .i64 kq,.slice yo yn yc,.int .i64 sq,.int .i64 kr,.slice uo un uc,.slice vo vn vc,.slice pa la da,.slice pm lm dm,.slice pg lg dg,.int .i64 m.rst,.int .i64 m.gone] 135 (0,0))∧(lo≤P∧P < hi∧lo≤b0∧b1≤hi∧(P < b0∨b1≤P)∧lo≤a0∧a1≤hi∧(P < a0∨a1≤P)∧lo≤m0∧m1≤hi∧(P < m0∨m1≤P)∧lo≤g0∧g1≤hi∧(P < g0∨g1≤P)∧(b1≤a0∨a1≤b0)∧(b1≤m0∨m1≤b0)∧(b1≤g0∨g1≤b0)∧(a1≤m0∨m1≤a0)∧(a1≤g0∨g1≤a0)∧(m1≤g0∨g1≤m0))∧InBl b0 b1 w (balr (.slice xo xn xc) kq (.slice yo yn yc) sq kr (.slice uo un uc) (.slice vo vn vc)) m.bal.j (replayM m.bal.j) m.bal.t∧InE elG 140 a0 a1 w (.slice pa la da) m.ags∧InE elM 96 m0 m1 w (.slice pm lm dm) m.bag∧InL layGt 98 g0 g1 w (.slice pg lg dg) m.got
def nowB (n:Int):Bool:=decide (0≤n) && decide (n≤99000)
def tallyB (n:Int):Bool:=decide (0≤n) && decide (n≤100000)
theorem okK_parts (m:Km):okK m=(nowB m.now && tallyB m.rst && tallyB m.gone && balB m.bal && agsB m.ags && bagB m.now m.bag && gotsB m.got):=by
 rw [Bool.eq_iff_iff]
 unfold okK headK agsB bagB gotsB nowB tallyB
 simp only [Bool.and_eq_true]
 constructor
 ·rintro ⟨⟨⟨⟨⟨⟨⟨⟨⟨⟨⟨⟨n0,n1⟩,b⟩,l6⟩,l60⟩,lk⟩,r0⟩,r1⟩,g0⟩,g1⟩,a⟩,q⟩,g⟩
  exact ⟨⟨⟨⟨⟨⟨⟨n0,n1⟩,r0,r1⟩,g0,g1⟩,b⟩,l6,a⟩,l60,q⟩,lk,g⟩
 ·rintro ⟨⟨⟨⟨⟨⟨⟨n0,n1⟩,r0,r1⟩,g0,g1⟩,b⟩,l6,a⟩,l60,q⟩,lk,g⟩
  exact ⟨⟨⟨⟨⟨⟨⟨⟨⟨⟨⟨⟨n0,n1⟩,b⟩,l6⟩,l60⟩,lk⟩,r0⟩,r1⟩,g0⟩,g1⟩,a⟩,q⟩,g⟩
theorem clusterFrom_any (lo hi:Nat) (v:Value) (m:Km) (w:World) (h:InKm lo hi w v m) (hh:hi≤w.heap.size) (hf:fitKm m):
  Calls Tryz.prog 49 #[v] w fun e w'=> ((okK m=false∧e=.returned (.tuple #[.pointer none,.bool false]))∨(okK m=true∧∃P,e=.returned (.tuple #[.pointer (some ⟨P,0,none⟩),.bool true])∧InKl w.heap.size w'.heap.size w' P m))∧Below w.heap.size w w':=by
 obtain ⟨kj,o,nj,c,sf,kp,ob,np,cb,oR,nr,cR,ot,nt,ct,oa,na,ca,om,nm,cm,og,ng,cg,ev,r1,r2,r3,r4,ea,em,eg⟩:=(h.rd.le hh).opn
 obtain ⟨f1,f2,f3,f4,f5⟩:=hf
 have HBL:Hid (∀W,Below w.heap.size w W→Calls Tryz.prog 101 #[balv kj (.slice o nj c) sf kp (.slice ob np cb) (.slice oR nr cR) (.slice ot nt ct)] W fun e w'=> ∃xo xn xc kq yo yn yc sq kr uo un uc vo vn vc,e=.returned (.tuple #[balr (.slice xo xn xc) kq (.slice yo yn yc) sq kr (.slice uo un uc) (.slice vo vn vc),.bool (balB m.bal)])∧((balB m.bal)=true→InBl W.heap.size w'.heap.size w' (balr (.slice xo xn xc) kq (.slice yo yn yc) sq kr (.slice uo un uc) (.slice vo vn vc)) m.bal.j (replayM m.bal.j) m.bal.t)∧Below W.heap.size W w'):=fun W hb=> by
  obtain ⟨kj',vl,sf',kp',vb,vr,vt,va,vm,vg,b0,b1,a0,a1,m0,m1,g0,g1,e,k,i1,_⟩:=h
  rw [ev] at e
  simp only [Value.agg.injEq,Array.mk.injEq,List.cons.injEq,and_true,true_and,Value.int.injEq] at e
  obtain ⟨e1,e2,e3,e4,e5,e6,e7,_⟩:=e
  subst e1 e2 e3 e4 e5 e6 e7
  have h':=i1.step (Stp.of (lo:=0) (hi:=0) hb) (.inl (Nat.zero_le _))
  obtain ⟨o',c',ob',cb',oR',cR',ot',ct',e',q1,q2,q3,q4⟩:=balIn_open h' (Nat.le_trans (by omega) hb.size)
  rw [e']
  exact balFrom_any m.bal.j.key o' _ c' m.bal.j.safe m.bal.p.key ob' _ cb' oR' _ cR' ot' _ ct' m.bal.j.l m.bal.p.l m.bal.p.ring m.bal.t W rfl rfl q1 q2 q3 q4 f1
 have HAG:Hid (∀W,Below w.heap.size w W→Calls Tryz.prog 102 #[.slice oa na ca] W fun e w'=> ∃o n c,e=.returned (.tuple #[.slice o n c,.bool (agsB m.ags)])∧(agsB m.ags=true→InE elG 140 W.heap.size w'.heap.size w' (.slice o n c) m.ags)∧Below W.heap.size W w'):=fun W hb=> agentsFrom_any _ m.ags W (r2.on hb) (by omega) (fun i hi=> fitA f2 i hi)
 have HBG:Hid (∀W,Below w.heap.size w W→Calls Tryz.prog 103 #[.slice om nm cm,.int .i64 m.now] W fun e w'=> ∃o n c,e=.returned (.tuple #[.slice o n c,.bool (bagB m.now m.bag)])∧(bagB m.now m.bag=true→InE elM 96 W.heap.size w'.heap.size w' (.slice o n c) m.bag)∧Below W.heap.size W w'):=fun W hb=> by
  obtain ⟨kj',vl,sf',kp',vb,vr,vt,va,vm,vg,b0,b1,a0,a1,m0,m1,g0,g1,e,k,_,_,i3,_⟩:=h
  rw [ev] at e
  simp only [Value.agg.injEq,Array.mk.injEq,List.cons.injEq,and_true,true_and,Value.int.injEq] at e
  obtain ⟨_,_,_,_,_,_,_,_,e9,_⟩:=e
  subst e9
  exact bagFrom_any m0 m1 _ m.bag m.now W ((InE.stp _ _).go i3 (Stp.of (lo:=0) (hi:=0) hb) (.inl (Nat.zero_le _))) (Nat.le_trans (by omega) hb.size) (by omega) (fun i hi=> fitM f3 f5 i hi)
 have HGT:Hid (∀W,Below w.heap.size w W→Calls Tryz.prog 104 #[.slice og ng cg] W fun e w'=> ∃o n c,e=.returned (.tuple #[.slice o n c,.bool (gotsB m.got)])∧(gotsB m.got=true→InL layGt 98 W.heap.size w'.heap.size w' (.slice o n c) m.got)∧Below W.heap.size W w'):=fun W hb=> by
  obtain ⟨kj',vl,sf',kp',vb,vr,vt,va,vm,vg,b0,b1,a0,a1,m0,m1,g0,g1,e,k,_,_,_,i4⟩:=h
  rw [ev] at e
  simp only [Value.agg.injEq,Array.mk.injEq,List.cons.injEq,and_true,true_and,Value.int.injEq] at e
  obtain ⟨_,_,_,_,_,_,_,_,_,e10⟩:=e
  subst e10
  exact gotFrom_any _ m.got W ((r4.kept hb (Nat.le_refl _)).le hb.size) (InRow.cap i4) f4
 have HPT:=hide (okK_parts m)
 subst ev
 clear r1 r2 r3 r4 ea em eg f1 f2 f3 f4 f5 h hh
 obtain ⟨now,hnow⟩:∃q,m.now=q:=⟨_,rfl⟩
 obtain ⟨rst,hrst⟩:∃q,m.rst=q:=⟨_,rfl⟩
 obtain ⟨gone,hgone⟩:∃q,m.gone=q:=⟨_,rfl⟩
 have HV:=hide (And.intro hnow (And.intro hrst hgone))
 rw [hnow] at HBG
 rw [hnow,hrst,hgone] at HPT
 rw [hnow,hrst,hgone]
 clear hnow hrst hgone
 have HN:Hid (∀W,Calls Tryz.prog 99 #[.int .i64 now] W fun e w'=> e=.returned (.bool (nowB now))∧W=w'):=fun W=> isNow_any now W
 have HR:Hid (∀W,Calls Tryz.prog 100 #[.int .i64 rst] W fun e w'=> e=.returned (.bool (tallyB rst))∧W=w'):=fun W=> isTally_any rst W
 have HG:Hid (∀W,Calls Tryz.prog 100 #[.int .i64 gone] W fun e w'=> e=.returned (.bool (tallyB gone))∧W=w'):=fun W=> isTally_any gone W
 obtain ⟨q1,hq1⟩:∃q,nowB now=q:=⟨_,rfl⟩
 rw [hq1] at HN HPT
 clear hq1
 obtain ⟨q2,hq2⟩:∃q,tallyB rst=q:=⟨_,rfl⟩
 rw [hq2] at HR HPT
 clear hq2
 obtain ⟨q3,hq3⟩:∃q,tallyB gone=q:=⟨_,rfl⟩
 rw [hq3] at HG HPT
 clear hq3
 obtain ⟨q4,hq4⟩:∃q,balB m.bal=q:=⟨_,rfl⟩
 rw [hq4] at HBL HPT
 clear hq4
 obtain ⟨q5,hq5⟩:∃q,agsB m.ags=q:=⟨_,rfl⟩
 rw [hq5] at HAG HPT
 clear hq5
 obtain ⟨q6,hq6⟩:∃q,bagB now m.bag=q:=⟨_,rfl⟩
 rw [hq6] at HBG HPT
 clear hq6
 obtain ⟨q7,hq7⟩:∃q,gotsB m.got=q:=⟨_,rfl⟩
 rw [hq7] at HGT HPT
 clear hq7
 have bx:=World.alloc_heap_new w (.cells #[.int .i64 now,.int .i64 kj,.slice o nj c,.int .i64 sf,.int .i64 kp,.slice ob np cb,.slice oR nr cR,.slice ot nt ct,.slice oa na ca,.slice om nm cm,.slice og ng cg,.int .i64 rst,.int .i64 gone] 56)
 have hb0:Below w.heap.size w (w.alloc (.cells #[.int .i64 now,.int .i64 kj,.slice o nj c,.int .i64 sf,.int .i64 kp,.slice ob np cb,.slice oR nr cR,.slice ot nt ct,.slice oa na ca,.slice om nm cm,.slice og ng cg,.int .i64 rst,.int .i64 gone] 56)):=(Below.refl _ _).alloc (Nat.le_refl _) _
 have hs0:w.heap.size < (w.alloc (.cells #[.int .i64 now,.int .i64 kj,.slice o nj c,.int .i64 sf,.int .i64 kp,.slice ob np cb,.slice oR nr cR,.slice ot nt ct,.slice oa na ca,.slice om nm cm,.slice og ng cg,.int .i64 rst,.int .i64 gone] 56)).heap.size:=by simp
 obtain ⟨z0,z1,z2,z3,z4,z5,z6,z7,z8,z9,z10,z11,z12,_⟩:=bx13 bx
 have HX:=hide bx
 have HB:=hide hb0
 have HS0:=hide hs0
 clear bx hb0 hs0
 go_enter Tryz.func49,Tryz.ntmps49
 go_wp2_with fail
 generalize (w.alloc (.cells #[.int .i64 now,.int .i64 kj,.slice o nj c,.int .i64 sf,.int .i64 kp,.slice ob np cb,.slice oR nr cR,.slice ot nt ct,.slice oa na ca,.slice om nm cm,.slice og ng cg,.int .i64 rst,.int .i64 gone] 56))=W0 at *
 refine (HN.out W0).mono ?_
 rintro e _ ⟨rfl,rfl⟩
 cases q1 with
 |false=>
  go_wp2
  refine bodyPost_ret (v:=.tuple #[.pointer none,.bool false]) (by simp [results,Tryz.results49,go_sem]) rfl ⟨.inl ⟨by rw [HPT.out];simp,rfl⟩,HB.out⟩
 |true=>
  go_wp2_with fail
  refine (HR.out W0).mono ?_
  rintro e _ ⟨rfl,rfl⟩
  cases q2 with
  |false=>
   go_wp2
   refine bodyPost_ret (v:=.tuple #[.pointer none,.bool false]) (by simp [results,Tryz.results49,go_sem]) rfl ⟨.inl ⟨by rw [HPT.out];simp,rfl⟩,HB.out⟩
  |true=>
   go_wp2_with fail
   refine (HG.out W0).mono ?_
   rintro e _ ⟨rfl,rfl⟩
   cases q3 with
   |false=>
    go_wp2
    refine bodyPost_ret (v:=.tuple #[.pointer none,.bool false]) (by simp [results,Tryz.results49,go_sem]) rfl ⟨.inl ⟨by rw [HPT.out];simp,rfl⟩,HB.out⟩
   |true=>
    go_wp2_with fail
    refine (HBL.out W0 HB.out).mono ?_
    rintro e w1 ⟨xo,xn,xc,kq,yo,yn,yc,sq,kr,uo,un,uc,vo,vn,vc,rfl,hi1,hb⟩
    have HI1:=hide hi1
    have s01:=hb.size
    have HX1:=hide (hp_on HX.out hb)
    have HB1:=hide (HB.out.trans (hb.mono HB.out.size))
    clear hi1 hb z0 z1 z2 z3 z4 z5 z6 z7 z8 z9 z10 z11 z12 HX HN HR HG HBL
    have by0:=World.alloc_heap_new w1 (.cells #[.slice xo xn xc,.int .i64 kq,.slice yo yn yc,.int .i64 sq,.int .i64 kr,.slice uo un uc,.slice vo vn vc] 132)
    have hb2:Below w1.heap.size w1 (w1.alloc (.cells #[.slice xo xn xc,.int .i64 kq,.slice yo yn yc,.int .i64 sq,.int .i64 kr,.slice uo un uc,.slice vo vn vc] 132)):=(Below.refl _ _).alloc (Nat.le_refl _) _
    have HX2:=hide (hp_on HX1.out hb2)
    have HB2:=hide (HB1.out.trans (hb2.mono HB1.out.size))
    have s12:w1.heap.size < (w1.alloc (.cells #[.slice xo xn xc,.int .i64 kq,.slice yo yn yc,.int .i64 sq,.int .i64 kr,.slice uo un uc,.slice vo vn vc] 132)).heap.size:=by simp
    obtain ⟨z0,z1,z2,z3,z4,z5,z6,z7,z8,z9,z10,z11,z12,_⟩:=bx13 HX2.out
    have y0:(w1.alloc (.cells #[.slice xo xn xc,.int .i64 kq,.slice yo yn yc,.int .i64 sq,.int .i64 kr,.slice uo un uc,.slice vo vn vc] 132)).cell? ⟨w1.heap.size,0,none⟩=some (.slice xo xn xc):=block_cell1 by0 0 _ rfl
    have y1:(w1.alloc (.cells #[.slice xo xn xc,.int .i64 kq,.slice yo yn yc,.int .i64 sq,.int .i64 kr,.slice uo un uc,.slice vo vn vc] 132)).cell? ⟨w1.heap.size,1,none⟩=some (.int .i64 kq):=block_cell1 by0 1 _ rfl
    have y2:(w1.alloc (.cells #[.slice xo xn xc,.int .i64 kq,.slice yo yn yc,.int .i64 sq,.int .i64 kr,.slice uo un uc,.slice vo vn vc] 132)).cell? ⟨w1.heap.size,2,none⟩=some (.slice yo yn yc):=block_cell1 by0 2 _ rfl
    have y3:(w1.alloc (.cells #[.slice xo xn xc,.int .i64 kq,.slice yo yn yc,.int .i64 sq,.int .i64 kr,.slice uo un uc,.slice vo vn vc] 132)).cell? ⟨w1.heap.size,3,none⟩=some (.int .i64 sq):=block_cell1 by0 3 _ rfl
    have y4:(w1.alloc (.cells #[.slice xo xn xc,.int .i64 kq,.slice yo yn yc,.int .i64 sq,.int .i64 kr,.slice uo un uc,.slice vo vn vc] 132)).cell? ⟨w1.heap.size,4,none⟩=some (.int .i64 kr):=block_cell1 by0 4 _ rfl
    have y5:(w1.alloc (.cells #[.slice xo xn xc,.int .i64 kq,.slice yo yn yc,.int .i64 sq,.int .i64 kr,.slice uo un uc,.slice vo vn vc] 132)).cell? ⟨w1.heap.size,5,none⟩=some (.slice uo un uc):=block_cell1 by0 5 _ rfl
    have y6:(w1.alloc (.cells #[.slice xo xn xc,.int .i64 kq,.slice yo yn yc,.int .i64 sq,.int .i64 kr,.slice uo un uc,.slice vo vn vc] 132)).cell? ⟨w1.heap.size,6,none⟩=some (.slice vo vn vc):=block_cell1 by0 6 _ rfl
    have HY:=hide by0
    have HT2:=hide hb2
    clear by0 hb2
    go_wp2_with fail
    generalize (w1.alloc (.cells #[.slice xo xn xc,.int .i64 kq,.slice yo yn yc,.int .i64 sq,.int .i64 kr,.slice uo un uc,.slice vo vn vc] 132))=w2 at *
    clear z0 z1 z2 z3 z4 z5 z6 z7 z8 z9 z10 z11 z12 y0 y1 y2 y3 y4 y5 y6
    refine (HAG.out w2 HB2.out).mono ?_
    rintro e w3 ⟨pa,la,da,rfl,hi3,hb⟩
    have HI3:=hide hi3
    have s23:=hb.size
    have HX3:=hide (hp_on HX2.out hb)
    have HB3:=hide (HB2.out.trans (hb.mono HB2.out.size))
    have HT3:=hide (HT2.out.trans (hb.mono HT2.out.size))
    have by0:=hp_on HY.out hb
    have HZ3:=hide hb
    clear hi3 hb HX2 HB2 HT2 HY HAG
    obtain ⟨z0,z1,z2,z3,z4,z5,z6,z7,z8,z9,z10,z11,z12,_⟩:=bx13 HX3.out
    have y0:w3.cell? ⟨w1.heap.size,0,none⟩=some (.slice xo xn xc):=block_cell1 by0 0 _ rfl
    have y1:w3.cell? ⟨w1.heap.size,1,none⟩=some (.int .i64 kq):=block_cell1 by0 1 _ rfl
    have y2:w3.cell? ⟨w1.heap.size,2,none⟩=some (.slice yo yn yc):=block_cell1 by0 2 _ rfl
    have y3:w3.cell? ⟨w1.heap.size,3,none⟩=some (.int .i64 sq):=block_cell1 by0 3 _ rfl
    have y4:w3.cell? ⟨w1.heap.size,4,none⟩=some (.int .i64 kr):=block_cell1 by0 4 _ rfl
    have y5:w3.cell? ⟨w1.heap.size,5,none⟩=some (.slice uo un uc):=block_cell1 by0 5 _ rfl
    have y6:w3.cell? ⟨w1.heap.size,6,none⟩=some (.slice vo vn vc):=block_cell1 by0 6 _ rfl
    have HY:=hide by0
    clear by0
    go_wp2_with fail
    clear z0 z1 z2 z3 z4 z5 z6 z7 z8 z9 z10 z11 z12 y0 y1 y2 y3 y4 y5 y6
    refine (HBG.out w3 HB3.out).mono ?_
    rintro e w4 ⟨pm,lm,dm,rfl,hi4,hb⟩
    have HI4:=hide hi4
    have s34:=hb.size
    have HX4:=hide (hp_on HX3.out hb)
    have HB4:=hide (HB3.out.trans (hb.mono HB3.out.size))
    have HT4:=hide (HT3.out.trans (hb.mono HT3.out.size))
    have by0:=hp_on HY.out hb
    have HZ4:=hide hb
    clear hi4 hb HX3 HB3 HT3 HY HBG
    obtain ⟨z0,z1,z2,z3,z4,z5,z6,z7,z8,z9,z10,z11,z12,_⟩:=bx13 HX4.out
    have y0:w4.cell? ⟨w1.heap.size,0,none⟩=some (.slice xo xn xc):=block_cell1 by0 0 _ rfl
    have y1:w4.cell? ⟨w1.heap.size,1,none⟩=some (.int .i64 kq):=block_cell1 by0 1 _ rfl
    have y2:w4.cell? ⟨w1.heap.size,2,none⟩=some (.slice yo yn yc):=block_cell1 by0 2 _ rfl
    have y3:w4.cell? ⟨w1.heap.size,3,none⟩=some (.int .i64 sq):=block_cell1 by0 3 _ rfl
    have y4:w4.cell? ⟨w1.heap.size,4,none⟩=some (.int .i64 kr):=block_cell1 by0 4 _ rfl
    have y5:w4.cell? ⟨w1.heap.size,5,none⟩=some (.slice uo un uc):=block_cell1 by0 5 _ rfl
    have y6:w4.cell? ⟨w1.heap.size,6,none⟩=some (.slice vo vn vc):=block_cell1 by0 6 _ rfl
    have HY:=hide by0
    clear by0
    go_wp2_with fail
    clear z0 z1 z2 z3 z4 z5 z6 z7 z8 z9 z10 z11 z12 y0 y1 y2 y3 y4 y5 y6
    refine (HGT.out w4 HB4.out).mono ?_
    rintro e w5 ⟨pg,lg,dg,rfl,hi5,hb⟩
    have HI5:=hide hi5
    have s45:=hb.size
    have HX5:=hide (hp_on HX4.out hb)
    have HB5:=hide (HB4.out.trans (hb.mono HB4.out.size))
    have HT5:=hide (HT4.out.trans (hb.mono HT4.out.size))
    have by0:=hp_on HY.out hb
    have HZ5:=hide hb
    clear hi5 hb HX4 HB4 HT4 HY HGT
    obtain ⟨z0,z1,z2,z3,z4,z5,z6,z7,z8,z9,z10,z11,z12,_⟩:=bx13 HX5.out
    have y0:w5.cell? ⟨w1.heap.size,0,none⟩=some (.slice xo xn xc):=block_cell1 by0 0 _ rfl
    have y1:w5.cell? ⟨w1.heap.size,1,none⟩=some (.int .i64 kq):=block_cell1 by0 1 _ rfl
    have y2:w5.cell? ⟨w1.heap.size,2,none⟩=some (.slice yo yn yc):=block_cell1 by0 2 _ rfl
    have y3:w5.cell? ⟨w1.heap.size,3,none⟩=some (.int .i64 sq):=block_cell1 by0 3 _ rfl
    have y4:w5.cell? ⟨w1.heap.size,4,none⟩=some (.int .i64 kr):=block_cell1 by0 4 _ rfl
    have y5:w5.cell? ⟨w1.heap.size,5,none⟩=some (.slice uo un uc):=block_cell1 by0 5 _ rfl
    have y6:w5.cell? ⟨w1.heap.size,6,none⟩=some (.slice vo vn vc):=block_cell1 by0 6 _ rfl
    have HY:=hide by0
    clear by0
    replace HB:=HB5
    cases q4 with
    |false=>
     go_wp2
     refine bodyPost_ret (v:=.tuple #[.pointer none,.bool false]) (by simp [results,Tryz.results49,go_sem]) rfl ⟨.inl ⟨by rw [HPT.out];simp,rfl⟩,HB.out⟩
    |true=>
     cases q5 with
     |false=>
      go_wp2
      refine bodyPost_ret (v:=.tuple #[.pointer none,.bool false]) (by simp [results,Tryz.results49,go_sem]) rfl ⟨.inl ⟨by rw [HPT.out];simp,rfl⟩,HB.out⟩
     |true=>
      cases q6 with
      |false=>
       go_wp2
       refine bodyPost_ret (v:=.tuple #[.pointer none,.bool false]) (by simp [results,Tryz.results49,go_sem]) rfl ⟨.inl ⟨by rw [HPT.out];simp,rfl⟩,HB.out⟩
      |true=>
       cases q7 with
       |false=>
        go_wp2
        refine bodyPost_ret (v:=.tuple #[.pointer none,.bool false]) (by simp [results,Tryz.results49,go_sem]) rfl ⟨.inl ⟨by rw [HPT.out];simp,rfl⟩,HB.out⟩
       |true=>
        have bz:=World.alloc_heap_new w5 (.cells #[.int .i64 now,.slice xo xn xc,.int .i64 kq,.slice yo yn yc,.int .i64 sq,.int .i64 kr,.slice uo un uc,.slice vo vn vc,.slice pa la da,.slice pm lm dm,.slice pg lg dg,.int .i64 rst,.int .i64 gone] 135)
        have hb6:Below w5.heap.size w5 (w5.alloc (.cells #[.int .i64 now,.slice xo xn xc,.int .i64 kq,.slice yo yn yc,.int .i64 sq,.int .i64 kr,.slice uo un uc,.slice vo vn vc,.slice pa la da,.slice pm lm dm,.slice pg lg dg,.int .i64 rst,.int .i64 gone] 135)):=(Below.refl _ _).alloc (Nat.le_refl _) _
        have s56:(w5.alloc (.cells #[.int .i64 now,.slice xo xn xc,.int .i64 kq,.slice yo yn yc,.int .i64 sq,.int .i64 kr,.slice uo un uc,.slice vo vn vc,.slice pa la da,.slice pm lm dm,.slice pg lg dg,.int .i64 rst,.int .i64 gone] 135)).heap.size=w5.heap.size+1:=by simp
        have HBZ:=hide bz
        have HB6:=hide (HB.out.trans (hb6.mono HB.out.size))
        have HT6:=hide hb6
        have HS6:=hide s56
        clear bz hb6 s56
        go_wp2
        refine bodyPost_ret (v:=.tuple #[.pointer (some ⟨w5.heap.size,0,none⟩),.bool true]) (by simp [results,Tryz.results49,go_sem]) rfl ⟨.inr ⟨by rw [HPT.out];rfl,w5.heap.size,rfl, ?_⟩,HB6.out⟩
        generalize (w5.alloc (.cells #[.int .i64 now,.slice xo xn xc,.int .i64 kq,.slice yo yn yc,.int .i64 sq,.int .i64 kr,.slice uo un uc,.slice vo vn vc,.slice pa la da,.slice pm lm dm,.slice pg lg dg,.int .i64 rst,.int .i64 gone] 135))=w6 at *
        have hs6:=HS6.out
        have hs0:=HS0.out
        have t35:=HZ4.out.trans (HZ5.out.mono HZ4.out.size)
        have t36:=t35.trans (HT6.out.mono t35.size)
        have t46:=HZ5.out.trans (HT6.out.mono HZ5.out.size)
        have t16:=HT5.out.trans (HT6.out.mono HT5.out.size)
        exact ⟨xo,xn,xc,kq,yo,yn,yc,sq,kr,uo,un,uc,vo,vn,vc,pa,la,da,pm,lm,dm,pg,lg,dg,W0.heap.size,w1.heap.size,w2.heap.size,w3.heap.size,w3.heap.size,w4.heap.size,w4.heap.size,w5.heap.size,by rw [HV.out.1,HV.out.2.1,HV.out.2.2];exact HBZ.out,by omega,(HI1.out (by trivial)).step (Stp.of (lo:=0) (hi:=0) t16) (.inl (Nat.zero_le _)),(InE.stp _ _).go (HI3.out (by trivial)) (Stp.of (lo:=0) (hi:=0) t36) (.inl (Nat.zero_le _)),(InE.stp _ _).go (HI4.out (by trivial)) (Stp.of (lo:=0) (hi:=0) t46) (.inl (Nat.zero_le _)),InRow.step (HI5.out (by trivial)) (Stp.of (lo:=0) (hi:=0) HT6.out) (.inl (Nat.zero_le _))⟩
def opM (m:Mm):Bool:=opensB m.c.a m.c.b m.c.f m.c.s m.c.l.length
theorem opM_yes {m:Mm} (h:mailM m=true):(decide (m.k=0) && opens3 m.c.f)=opM m:=by
 unfold mailM mailB at h
 unfold opM
 rw [Bool.or_eq_true] at h
 rcases h with h|h
 ·simp only [Bool.and_eq_true,decide_eq_true_eq] at h
  obtain ⟨⟨⟨⟨h0,h1⟩,_⟩,_⟩,_⟩:=h
  rw [←opensB_yes (carrierOkB_head h1).1,h0]
  simp [opens3]
 ·simp only [Bool.and_eq_true,decide_eq_true_eq] at h
  obtain ⟨⟨⟨⟨h0,_⟩,_⟩,_⟩,h1⟩:=h
  have h2:=noCarB_iff.1 h1
  rw [h0,h2.2.2.1]
  unfold opensB
  rw [show (bits .and .i64 0 3==1)=false by decide+kernel]
  simp
theorem mail_st {m:Mm} (h:mailM m=true):0≤m.c.st∧m.c.st≤100000:=by
 unfold mailM mailB at h
 rw [Bool.or_eq_true] at h
 rcases h with h|h
 ·simp only [Bool.and_eq_true,decide_eq_true_eq] at h
  have:=carrierOkB_head h.1.1.1.2
  omega
 ·simp only [Bool.and_eq_true,decide_eq_true_eq] at h
  have:=noCarB_iff.1 h.2
  omega
theorem wrap_low (z:Int) (h0: -1000000≤z) (h1:z≤1000000):IntKind.i64.wrap z=z:=by
 have:IntKind.i64.wrap z=z:=by
  simp [go_sem,IntKind.wrap,IntKind.bits,IntKind.signed] <;> omega
 exact this
def oldTo (now:Int) (xs:List Mm):Nat→Int
 |0=> -1
 |k+1=> if opM (xs.getD k mmD) && decide (oldTo now xs k < now - (xs.getD k mmD).c.st) then now - (xs.getD k mmD).c.st else oldTo now xs k
def oldM (m:Km):Int:=if okK m then oldTo m.now m.bag m.bag.length else -1
theorem okK_mails {m:Km} (h:okK m=true):0≤m.now∧m.now≤99000∧∀i,i < m.bag.length→mailM (m.bag.getD i mmD)=true∧(m.bag.getD i mmD).c.st≤m.now:=by
 unfold okK at h
 simp only [Bool.and_eq_true] at h
 have h1:=headK_iff.1 h.1.1.1
 refine ⟨h1.1,h1.2.1,fun i hi=> ?_⟩
 have h2:=List.all_eq_true.1 h.1.2 i (List.mem_range.2 hi)
 unfold mlF at h2
 simpa using h2
theorem specOldest_in (lo hi:Nat) (v:Value) (m:Km) (w:World) (h:InKm lo hi w v m) (hh:hi≤w.heap.size) (hf:fitKm m):
  Calls Tryz.prog 33 #[v] w fun e w'=> e=.returned (.int .i64 (oldM m))∧Below w.heap.size w w':=by
 obtain ⟨kj,o,nj,c,sf,kp,ob,np,cb,oR,nr,cR,ot,nt,ct,oa,na,ca,om,nm,cm,og,ng,cg,ev,r1,r2,r3,r4,ea,em,eg⟩:=(h.rd.le hh).opn
 have HC:=hide (fun W (hb:Below w.heap.size w W)=> specClusterOk_in lo hi v m W (h.step (Stp.of (lo:=0) (hi:=0) hb) (.inl (Nat.zero_le _))) (Nat.le_trans hh hb.size) hf)
 have HRD:=hide r3
 have HN:=hide em.symm
 have HOM:Hid (oldM m=if okK m then oldTo m.now m.bag nm else -1):=by unfold Hid oldM;rw [em]
 have HALL:Hid (okK m=true→0≤m.now∧m.now≤99000∧∀i,i < nm→mailM (m.bag.getD i mmD)=true∧(m.bag.getD i mmD).c.st≤m.now):=by rw [em];exact okK_mails
 have hnb:nm≤1048576:=by have:=hf.2.2.1;omega
 subst ev
 clear r1 r2 r3 r4 ea em eg h hh hf
 obtain ⟨now,hnow⟩:∃q,m.now=q:=⟨_,rfl⟩
 rw [hnow] at HC HOM HALL ⊢
 clear hnow
 generalize m.rst=rst at *
 generalize m.gone=gone at *
 obtain ⟨n,hn⟩:∃q,nm=q:=⟨_,rfl⟩
 rw [hn] at HC HOM HALL HRD HN hnb ⊢
 clear hn nm
 obtain ⟨t,ht⟩:∃q,okK m=q:=⟨_,rfl⟩
 rw [ht] at HC HOM HALL
 clear ht
 have bx:=World.alloc_heap_new w (.cells #[.int .i64 now,.int .i64 kj,.slice o nj c,.int .i64 sf,.int .i64 kp,.slice ob np cb,.slice oR nr cR,.slice ot nt ct,.slice oa na ca,.slice om n cm,.slice og ng cg,.int .i64 rst,.int .i64 gone] 56)
 have hb0:Below w.heap.size w (w.alloc (.cells #[.int .i64 now,.int .i64 kj,.slice o nj c,.int .i64 sf,.int .i64 kp,.slice ob np cb,.slice oR nr cR,.slice ot nt ct,.slice oa na ca,.slice om n cm,.slice og ng cg,.int .i64 rst,.int .i64 gone] 56)):=(Below.refl _ _).alloc (Nat.le_refl _) _
 obtain ⟨z0,z1,z2,z3,z4,z5,z6,z7,z8,z9,z10,z11,z12,_⟩:=bx13 bx
 have HB:=hide hb0
 have HX:=hide bx
 clear bx hb0
 go_enter Tryz.func33,Tryz.ntmps33
 go_wp2_with fail
 generalize (w.alloc (.cells #[.int .i64 now,.int .i64 kj,.slice o nj c,.int .i64 sf,.int .i64 kp,.slice ob np cb,.slice oR nr cR,.slice ot nt ct,.slice oa na ca,.slice om n cm,.slice og ng cg,.int .i64 rst,.int .i64 gone] 56))=W0 at *
 refine (HC.out W0 HB.out).mono ?_
 rintro e w1 ⟨rfl,hb⟩
 have HB1:=hide (HB.out.trans (hb.mono HB.out.size))
 have HX1:=hide (hp_on HX.out hb)
 clear hb z0 z1 z2 z3 z4 z5 z6 z7 z8 z9 z10 z11 z12 HX HB HC
 cases t with
 |false=>
  go_wp2
  refine bodyPost_ret (v:=.int .i64 (-1)) (by simp [results,Tryz.results33,go_sem]) rfl ⟨by rw [HOM.out];rfl,HB1.out⟩
 |true=>
 have hall:=HALL.out rfl
 have HNOW:=hide (And.intro hall.1 hall.2.1)
 have HAL:=hide hall.2.2
 clear hall HALL
 go_wp2
 go_loopw [3,4] (fun nv iv wr=> ∃k:Nat,k≤n∧iv=.int .i64 (k:Int)∧nv=.int .i64 (oldTo now m.bag k)∧Hid (Below w.heap.size w wr)∧Hid (wr.heap[w.heap.size]? =some (.cells #[.int .i64 now,.int .i64 kj,.slice o nj c,.int .i64 sf,.int .i64 kp,.slice ob np cb,.slice oR nr cR,.slice ot nt ct,.slice oa na ca,.slice om n cm,.slice og ng cg,.int .i64 rst,.int .i64 gone] 56 (0,0))))
  (fun _ iv _=> n - (intOf iv).toNat)
 case atStart=> exact ⟨0,Nat.zero_le _,rfl,rfl,HB1.out,HX1.out⟩
 case round=>
  obtain ⟨k,hk8,rfl,rfl,HBr,HXr⟩:=hrel
  obtain ⟨z0,z1,z2,z3,z4,z5,z6,z7,z8,z9,z10,z11,z12,_⟩:=bx13 HXr.out
  by_cases hlt:k < n
  ·have z:(k:Int) < (n:Int):=by omega
   obtain ⟨mk,hm⟩:∃q,m.bag.getD k mmD=q:=⟨_,rfl⟩
   have hok:=HAL.out k hlt
   rw [hm] at hok
   have HY:=hide (show oldTo now m.bag (k+1)=(if opM mk && decide (oldTo now m.bag k < now - mk.c.st) then now - mk.c.st else oldTo now m.bag k) by rw [←hm];rfl)
   have HOP:=hide (opM_yes hok.1)
   have hw:IntKind.i64.wrap (now - mk.c.st)=now - mk.c.st:=by have:=mail_st hok.1;have:=HNOW.out;exact wrap_low _ (by omega) (by omega)
   obtain ⟨b,off,o1,c1,o2,c2,rfl,hbl,p0,p1,p2,p3,p4,p5,p6,p7,p8,p9,p10,p11,_⟩:=RiM.cells HRD.out k (by rw [HN.out];exact hlt) hm
   have hbl':=hbl
   replace p0:=bCM HBr.out p0 hbl'
   replace p1:=bCM HBr.out p1 hbl'
   replace p2:=bCM HBr.out p2 hbl'
   replace p3:=bCM HBr.out p3 hbl'
   replace p4:=bCM HBr.out p4 hbl'
   replace p5:=bCM HBr.out p5 hbl'
   replace p6:=bCM HBr.out p6 hbl'
   replace p7:=bCM HBr.out p7 hbl'
   replace p8:=bCM HBr.out p8 hbl'
   replace p9:=bCM HBr.out p9 hbl'
   replace p10:=bCM HBr.out p10 hbl'
   replace p11:=bCM HBr.out p11 hbl'
   clear hok hm hbl hbl'
   obtain ⟨q1,hq1⟩:∃q,mk.c.l.length=q:=⟨_,rfl⟩
   obtain ⟨q2,hq2⟩:∃q,mk.c.g.length=q:=⟨_,rfl⟩
   rw [hq1] at p5
   rw [hq2] at p6
   obtain ⟨kd,hkd⟩:∃q,mk.k=q:=⟨_,rfl⟩
   rw [hkd] at HOP p0
   clear hkd
   have HOC:=hide (fun w=> l1opens_any mk.c.a mk.c.b mk.c.f mk.c.s o1 q1 c1 w)
   clear hq1 hq2
   obtain ⟨st,hst⟩:∃q,mk.c.st=q:=⟨_,rfl⟩
   rw [hst] at HY hw p8
   clear hst
   obtain ⟨ag,hag⟩:∃q,oldTo now m.bag k=q:=⟨_,rfl⟩
   rw [hag] at HY ⊢
   clear hag
   have bx:=World.alloc_heap_new wr (.cells #[.int .i64 kd,.int .i64 mk.c.a,.int .i64 mk.c.b,.int .i64 mk.c.f,.int .i64 mk.c.s,.slice o1 q1 c1,.slice o2 q2 c2,.int .i64 mk.c.pl,.int .i64 st,.int .i64 mk.fa,.int .i64 mk.fp,.int .i64 mk.bk] 96)
   have hb1:Below wr.heap.size wr (wr.alloc (.cells #[.int .i64 kd,.int .i64 mk.c.a,.int .i64 mk.c.b,.int .i64 mk.c.f,.int .i64 mk.c.s,.slice o1 q1 c1,.slice o2 q2 c2,.int .i64 mk.c.pl,.int .i64 st,.int .i64 mk.fa,.int .i64 mk.fp,.int .i64 mk.bk] 96)):=(Below.refl _ _).alloc (Nat.le_refl _) _
   have HX1:=hide (hp_on HXr.out hb1)
   have HB1:=hide (HBr.out.trans (hb1.mono HBr.out.size))
   have HBX:=hide bx
   clear hb1 bx
   have yn:=(bx13 HX1.out).1
   have x0:(wr.alloc (.cells #[.int .i64 kd,.int .i64 mk.c.a,.int .i64 mk.c.b,.int .i64 mk.c.f,.int .i64 mk.c.s,.slice o1 q1 c1,.slice o2 q2 c2,.int .i64 mk.c.pl,.int .i64 st,.int .i64 mk.fa,.int .i64 mk.fp,.int .i64 mk.bk] 96)).cell? ⟨wr.heap.size,0,none⟩=some (.int .i64 kd):=block_cell1 HBX.out 0 _ rfl
   have x1:(wr.alloc (.cells #[.int .i64 kd,.int .i64 mk.c.a,.int .i64 mk.c.b,.int .i64 mk.c.f,.int .i64 mk.c.s,.slice o1 q1 c1,.slice o2 q2 c2,.int .i64 mk.c.pl,.int .i64 st,.int .i64 mk.fa,.int .i64 mk.fp,.int .i64 mk.bk] 96)).cell? ⟨wr.heap.size,1,none⟩=some (.int .i64 mk.c.a):=block_cell1 HBX.out 1 _ rfl
   have x2:(wr.alloc (.cells #[.int .i64 kd,.int .i64 mk.c.a,.int .i64 mk.c.b,.int .i64 mk.c.f,.int .i64 mk.c.s,.slice o1 q1 c1,.slice o2 q2 c2,.int .i64 mk.c.pl,.int .i64 st,.int .i64 mk.fa,.int .i64 mk.fp,.int .i64 mk.bk] 96)).cell? ⟨wr.heap.size,2,none⟩=some (.int .i64 mk.c.b):=block_cell1 HBX.out 2 _ rfl
   have x3:(wr.alloc (.cells #[.int .i64 kd,.int .i64 mk.c.a,.int .i64 mk.c.b,.int .i64 mk.c.f,.int .i64 mk.c.s,.slice o1 q1 c1,.slice o2 q2 c2,.int .i64 mk.c.pl,.int .i64 st,.int .i64 mk.fa,.int .i64 mk.fp,.int .i64 mk.bk] 96)).cell? ⟨wr.heap.size,3,none⟩=some (.int .i64 mk.c.f):=block_cell1 HBX.out 3 _ rfl
   have x4:(wr.alloc (.cells #[.int .i64 kd,.int .i64 mk.c.a,.int .i64 mk.c.b,.int .i64 mk.c.f,.int .i64 mk.c.s,.slice o1 q1 c1,.slice o2 q2 c2,.int .i64 mk.c.pl,.int .i64 st,.int .i64 mk.fa,.int .i64 mk.fp,.int .i64 mk.bk] 96)).cell? ⟨wr.heap.size,4,none⟩=some (.int .i64 mk.c.s):=block_cell1 HBX.out 4 _ rfl
   have x5:(wr.alloc (.cells #[.int .i64 kd,.int .i64 mk.c.a,.int .i64 mk.c.b,.int .i64 mk.c.f,.int .i64 mk.c.s,.slice o1 q1 c1,.slice o2 q2 c2,.int .i64 mk.c.pl,.int .i64 st,.int .i64 mk.fa,.int .i64 mk.fp,.int .i64 mk.bk] 96)).cell? ⟨wr.heap.size,5,none⟩=some (.slice o1 q1 c1):=block_cell1 HBX.out 5 _ rfl
   have x6:(wr.alloc (.cells #[.int .i64 kd,.int .i64 mk.c.a,.int .i64 mk.c.b,.int .i64 mk.c.f,.int .i64 mk.c.s,.slice o1 q1 c1,.slice o2 q2 c2,.int .i64 mk.c.pl,.int .i64 st,.int .i64 mk.fa,.int .i64 mk.fp,.int .i64 mk.bk] 96)).cell? ⟨wr.heap.size,6,none⟩=some (.slice o2 q2 c2):=block_cell1 HBX.out 6 _ rfl
   have x7:(wr.alloc (.cells #[.int .i64 kd,.int .i64 mk.c.a,.int .i64 mk.c.b,.int .i64 mk.c.f,.int .i64 mk.c.s,.slice o1 q1 c1,.slice o2 q2 c2,.int .i64 mk.c.pl,.int .i64 st,.int .i64 mk.fa,.int .i64 mk.fp,.int .i64 mk.bk] 96)).cell? ⟨wr.heap.size,7,none⟩=some (.int .i64 mk.c.pl):=block_cell1 HBX.out 7 _ rfl
   have x8:(wr.alloc (.cells #[.int .i64 kd,.int .i64 mk.c.a,.int .i64 mk.c.b,.int .i64 mk.c.f,.int .i64 mk.c.s,.slice o1 q1 c1,.slice o2 q2 c2,.int .i64 mk.c.pl,.int .i64 st,.int .i64 mk.fa,.int .i64 mk.fp,.int .i64 mk.bk] 96)).cell? ⟨wr.heap.size,8,none⟩=some (.int .i64 st):=block_cell1 HBX.out 8 _ rfl
   have x9:(wr.alloc (.cells #[.int .i64 kd,.int .i64 mk.c.a,.int .i64 mk.c.b,.int .i64 mk.c.f,.int .i64 mk.c.s,.slice o1 q1 c1,.slice o2 q2 c2,.int .i64 mk.c.pl,.int .i64 st,.int .i64 mk.fa,.int .i64 mk.fp,.int .i64 mk.bk] 96)).cell? ⟨wr.heap.size,9,none⟩=some (.int .i64 mk.fa):=block_cell1 HBX.out 9 _ rfl
   have x10:(wr.alloc (.cells #[.int .i64 kd,.int .i64 mk.c.a,.int .i64 mk.c.b,.int .i64 mk.c.f,.int .i64 mk.c.s,.slice o1 q1 c1,.slice o2 q2 c2,.int .i64 mk.c.pl,.int .i64 st,.int .i64 mk.fa,.int .i64 mk.fp,.int .i64 mk.bk] 96)).cell? ⟨wr.heap.size,10,none⟩=some (.int .i64 mk.fp):=block_cell1 HBX.out 10 _ rfl
   have x11:(wr.alloc (.cells #[.int .i64 kd,.int .i64 mk.c.a,.int .i64 mk.c.b,.int .i64 mk.c.f,.int .i64 mk.c.s,.slice o1 q1 c1,.slice o2 q2 c2,.int .i64 mk.c.pl,.int .i64 st,.int .i64 mk.fa,.int .i64 mk.fp,.int .i64 mk.bk] 96)).cell? ⟨wr.heap.size,11,none⟩=some (.int .i64 mk.bk):=block_cell1 HBX.out 11 _ rfl
   by_cases hk0:kd=0
   ·subst hk0
    obtain ⟨B,hB⟩:∃q,opens3 mk.c.f=q:=⟨_,rfl⟩
    have HOM2:Hid (B=opM mk):=by have h:=HOP.out;rw [hB] at h;unfold Hid;simpa using h
    rw [hB] at HOC
    rw [←HOM2.out] at HY
    clear hB HOP
    go_wp2_with fail
    generalize (wr.alloc (.cells #[.int .i64 0,.int .i64 mk.c.a,.int .i64 mk.c.b,.int .i64 mk.c.f,.int .i64 mk.c.s,.slice o1 q1 c1,.slice o2 q2 c2,.int .i64 mk.c.pl,.int .i64 st,.int .i64 mk.fa,.int .i64 mk.fp,.int .i64 mk.bk] 96))=w2 at *
    refine (HOC.out w2).mono ?_
    rintro e w3 ⟨rfl,hb⟩
    have bx3:=hp_on HBX.out hb
    have HXE:=hide (hp_on HX1.out hb)
    have HBE:=hide (HB1.out.trans (hb.mono HB1.out.size))
    clear hb z0 z1 z2 z3 z4 z5 z6 z7 z8 z9 z10 z11 z12 yn x0 x1 x2 x3 x4 x5 x6 x7 x8 x9 x10 x11 p0 p1 p2 p3 p4 p5 p6 p7 p8 p9 p10 p11
    obtain ⟨z0,z1,z2,z3,z4,z5,z6,z7,z8,z9,z10,z11,z12,_⟩:=bx13 HXE.out
    have x0:w3.cell? ⟨wr.heap.size,0,none⟩=some (.int .i64 0):=block_cell1 bx3 0 _ rfl
    have x1:w3.cell? ⟨wr.heap.size,1,none⟩=some (.int .i64 mk.c.a):=block_cell1 bx3 1 _ rfl
    have x2:w3.cell? ⟨wr.heap.size,2,none⟩=some (.int .i64 mk.c.b):=block_cell1 bx3 2 _ rfl
    have x3:w3.cell? ⟨wr.heap.size,3,none⟩=some (.int .i64 mk.c.f):=block_cell1 bx3 3 _ rfl
    have x4:w3.cell? ⟨wr.heap.size,4,none⟩=some (.int .i64 mk.c.s):=block_cell1 bx3 4 _ rfl
    have x5:w3.cell? ⟨wr.heap.size,5,none⟩=some (.slice o1 q1 c1):=block_cell1 bx3 5 _ rfl
    have x6:w3.cell? ⟨wr.heap.size,6,none⟩=some (.slice o2 q2 c2):=block_cell1 bx3 6 _ rfl
    have x7:w3.cell? ⟨wr.heap.size,7,none⟩=some (.int .i64 mk.c.pl):=block_cell1 bx3 7 _ rfl
    have x8:w3.cell? ⟨wr.heap.size,8,none⟩=some (.int .i64 st):=block_cell1 bx3 8 _ rfl
    have x9:w3.cell? ⟨wr.heap.size,9,none⟩=some (.int .i64 mk.fa):=block_cell1 bx3 9 _ rfl
    have x10:w3.cell? ⟨wr.heap.size,10,none⟩=some (.int .i64 mk.fp):=block_cell1 bx3 10 _ rfl
    have x11:w3.cell? ⟨wr.heap.size,11,none⟩=some (.int .i64 mk.bk):=block_cell1 bx3 11 _ rfl
    clear bx3
    cases B with
    |false=>
     go_wp2
     go_roundw
     case rel=> first
      |exact ⟨k+1,by omega,by go_num,by rw [HY.out];rfl,HBE.out,HXE.out⟩
      |(refine ⟨_, ?_,rfl⟩;exact ⟨k+1,by omega,by go_num,by rw [HY.out];rfl,HBE.out,HXE.out⟩)
     case measure=> simp [intOf];omega
    |true=>
     by_cases hgt:ag < now - st
     ·go_wp2
      go_roundw
      case rel=> first
       |exact ⟨k+1,by omega,by go_num,by rw [HY.out];first|(simp [hgt];done)|(simp [hgt];omega),HBE.out,HXE.out⟩
       |(refine ⟨_, ?_,rfl⟩;exact ⟨k+1,by omega,by go_num,by rw [HY.out];first|(simp [hgt];done)|(simp [hgt];omega),HBE.out,HXE.out⟩)
      case measure=> simp [intOf];omega
     ·go_wp2
      go_roundw
      case rel=> first
       |exact ⟨k+1,by omega,by go_num,by rw [HY.out];first|(simp [hgt];done)|(simp [hgt];omega),HBE.out,HXE.out⟩
       |(refine ⟨_, ?_,rfl⟩;exact ⟨k+1,by omega,by go_num,by rw [HY.out];first|(simp [hgt];done)|(simp [hgt];omega),HBE.out,HXE.out⟩)
      case measure=> simp [intOf];omega
   ·have HN0:Hid (opM mk=false):=by have h:=HOP.out;rw [decide_eq_false hk0] at h;exact h.symm
    rw [HN0.out] at HY
    have HBE:=HB1
    have HXE:=HX1
    clear HOP
    go_wp2
    go_roundw
    case rel=> first
     |exact ⟨k+1,by omega,by go_num,by rw [HY.out];rfl,HBE.out,HXE.out⟩
     |(refine ⟨_, ?_,rfl⟩;exact ⟨k+1,by omega,by go_num,by rw [HY.out];rfl,HBE.out,HXE.out⟩)
    case measure=> simp [intOf];omega
  ·have ek:k=n:=by omega
   subst ek
   go_wp2
   refine bodyPost_ret (v:=.int .i64 (oldTo now m.bag k)) (by simp [results,Tryz.results33,go_sem]) rfl ⟨by rw [HOM.out];rfl,HBr.out⟩
theorem oldest_any (lo hi P:Nat) (m:Km) (w:World) (h:InKl lo hi w P m) (hh:hi≤w.heap.size) (hk:okK m=true) (hf:fitKm m):
  Calls Tryz.prog 80 #[.pointer (some ⟨P,0,none⟩)] w fun e w'=> e=.returned (.int .i64 (oldTo m.now m.bag m.bag.length))∧Below w.heap.size w w':=by
 obtain ⟨xo,xn,xc,kq,yo,yn,yc,sq,kr,uo,un,uc,vo,vn,vc,pa,la,da,pm,lm,dm,pg,lg,dg,b0,b1,a0,a1,m0,m1,g0,g1,bx,kk,_,_,h3,_⟩:=h
 have hlm:lm=m.bag.length:=by
  obtain ⟨o',c',e'⟩:=h3.ri.len
  injection e' with _ e2 _
 have hall:=okK_mails hk
 have HRD:=hide h3
 have HH:Hid (m1≤w.heap.size):=by unfold Hid;omega
 have HP:Hid (P < w.heap.size):=by unfold Hid;omega
 have HN:=hide hlm.symm
 have HLEN:Hid (∀k,k < m.bag.length→(m.bag.getD k mmD).c.l.length≤maxLen):=fun k hk=> by have:=(fitM hf.2.2.1 hf.2.2.2.2 k hk).1;unfold maxLen;omega
 have hnb:lm≤1048576:=by have:=hf.2.2.1;omega
 rw [←hlm] at hall HLEN ⊢
 clear hlm h3 kk hf hk hh
 obtain ⟨now,hnow⟩:∃q,m.now=q:=⟨_,rfl⟩
 rw [hnow] at hall bx ⊢
 clear hnow
 generalize m.rst=rst at *
 generalize m.gone=gone at *
 have HNOW:=hide (And.intro hall.1 hall.2.1)
 have HAL:=hide hall.2.2
 clear hall
 obtain ⟨n,hn⟩:∃q,lm=q:=⟨_,rfl⟩
 rw [hn] at HRD HN HLEN HAL bx hnb ⊢
 clear hn lm
 have HX:=hide bx
 obtain ⟨z0,z1,z2,z3,z4,z5,z6,z7,z8,z9,z10,z11,z12,_⟩:=bx13 bx
 clear bx
 go_enter Tryz.func80,Tryz.ntmps80
 go_wp2
 go_loopw [3,11] (fun nv iv wr=> ∃k:Nat,k≤n∧iv=.int .i64 (k:Int)∧nv=.int .i64 (oldTo now m.bag k)∧Hid (Below w.heap.size w wr)∧Hid (wr.heap[P]? =some (.cells #[.int .i64 now,.slice xo xn xc,.int .i64 kq,.slice yo yn yc,.int .i64 sq,.int .i64 kr,.slice uo un uc,.slice vo vn vc,.slice pa la da,.slice pm n dm,.slice pg lg dg,.int .i64 rst,.int .i64 gone] 135 (0,0))))
  (fun _ iv _=> n - (intOf iv).toNat)
 case atStart=> exact ⟨0,Nat.zero_le _,rfl,rfl,Below.refl _ _,HX.out⟩
 case round=>
  obtain ⟨k,hk8,rfl,rfl,HBr,HXr⟩:=hrel
  by_cases hlt:k < n
  ·have z:(k:Int) < (n:Int):=by omega
   obtain ⟨mk,hm⟩:∃q,m.bag.getD k mmD=q:=⟨_,rfl⟩
   have hok:=HAL.out k hlt
   rw [hm] at hok
   have hl0:=HLEN.out k hlt
   rw [hm] at hl0
   have HL0:=hide hl0
   clear hl0
   have HY:=hide (show oldTo now m.bag (k+1)=(if opM mk && decide (oldTo now m.bag k < now - mk.c.st) then now - mk.c.st else oldTo now m.bag k) by rw [←hm];rfl)
   have HOP:=hide (opM_yes hok.1)
   have hw:IntKind.i64.wrap (now - mk.c.st)=now - mk.c.st:=by have:=mail_st hok.1;have:=HNOW.out;exact wrap_low _ (by omega) (by omega)
   obtain ⟨b,off,o1,c1,o2,c2,rfl,hbl,p0,p1,p2,p3,p4,p5,p6,p7,p8,p9,p10,p11,_⟩:=InE.mail HRD.out k (by rw [HN.out];exact hlt) hm
   have hbl':=Nat.lt_of_lt_of_le hbl HH.out
   replace p0:=bCM HBr.out p0 hbl'
   replace p1:=bCM HBr.out p1 hbl'
   replace p2:=bCM HBr.out p2 hbl'
   replace p3:=bCM HBr.out p3 hbl'
   replace p4:=bCM HBr.out p4 hbl'
   replace p5:=bCM HBr.out p5 hbl'
   replace p6:=bCM HBr.out p6 hbl'
   replace p7:=bCM HBr.out p7 hbl'
   replace p8:=bCM HBr.out p8 hbl'
   replace p9:=bCM HBr.out p9 hbl'
   replace p10:=bCM HBr.out p10 hbl'
   replace p11:=bCM HBr.out p11 hbl'
   clear hok hm hbl hbl'
   obtain ⟨q1,hq1⟩:∃q,mk.c.l.length=q:=⟨_,rfl⟩
   obtain ⟨q2,hq2⟩:∃q,mk.c.g.length=q:=⟨_,rfl⟩
   rw [hq1] at p5
   rw [hq2] at p6
   obtain ⟨kd,hkd⟩:∃q,mk.k=q:=⟨_,rfl⟩
   rw [hkd] at HOP p0
   clear hkd
   have HOC:Hid (∀w,Calls Tryz.prog 138 #[pkt mk.c.a mk.c.b mk.c.f mk.c.s (.slice o1 q1 c1)] w fun e w'=> e=.returned (.bool (opM mk))∧Below w.heap.size w w'):=fun w=> by rw [←hq1];exact implOpens_any mk.c.a mk.c.b mk.c.f mk.c.s o1 _ c1 w HL0.out
   clear hq1 hq2
   obtain ⟨st,hst⟩:∃q,mk.c.st=q:=⟨_,rfl⟩
   rw [hst] at HY hw p8
   clear hst
   obtain ⟨ag,hag⟩:∃q,oldTo now m.bag k=q:=⟨_,rfl⟩
   rw [hag] at HY ⊢
   clear hag
   have bx:=World.alloc_heap_new wr (.cells #[.int .i64 kd,.int .i64 mk.c.a,.int .i64 mk.c.b,.int .i64 mk.c.f,.int .i64 mk.c.s,.slice o1 q1 c1,.slice o2 q2 c2,.int .i64 mk.c.pl,.int .i64 st,.int .i64 mk.fa,.int .i64 mk.fp,.int .i64 mk.bk] 96)
   have hb1:Below wr.heap.size wr (wr.alloc (.cells #[.int .i64 kd,.int .i64 mk.c.a,.int .i64 mk.c.b,.int .i64 mk.c.f,.int .i64 mk.c.s,.slice o1 q1 c1,.slice o2 q2 c2,.int .i64 mk.c.pl,.int .i64 st,.int .i64 mk.fa,.int .i64 mk.fp,.int .i64 mk.bk] 96)):=(Below.refl _ _).alloc (Nat.le_refl _) _
   have HX1:=hide (hp_on HXr.out hb1)
   have HB1:=hide (HBr.out.trans (hb1.mono HBr.out.size))
   have HBX:=hide bx
   clear hb1 bx
   have x0:(wr.alloc (.cells #[.int .i64 kd,.int .i64 mk.c.a,.int .i64 mk.c.b,.int .i64 mk.c.f,.int .i64 mk.c.s,.slice o1 q1 c1,.slice o2 q2 c2,.int .i64 mk.c.pl,.int .i64 st,.int .i64 mk.fa,.int .i64 mk.fp,.int .i64 mk.bk] 96)).cell? ⟨wr.heap.size,0,none⟩=some (.int .i64 kd):=block_cell1 HBX.out 0 _ rfl
   have x1:(wr.alloc (.cells #[.int .i64 kd,.int .i64 mk.c.a,.int .i64 mk.c.b,.int .i64 mk.c.f,.int .i64 mk.c.s,.slice o1 q1 c1,.slice o2 q2 c2,.int .i64 mk.c.pl,.int .i64 st,.int .i64 mk.fa,.int .i64 mk.fp,.int .i64 mk.bk] 96)).cell? ⟨wr.heap.size,1,none⟩=some (.int .i64 mk.c.a):=block_cell1 HBX.out 1 _ rfl
   have x2:(wr.alloc (.cells #[.int .i64 kd,.int .i64 mk.c.a,.int .i64 mk.c.b,.int .i64 mk.c.f,.int .i64 mk.c.s,.slice o1 q1 c1,.slice o2 q2 c2,.int .i64 mk.c.pl,.int .i64 st,.int .i64 mk.fa,.int .i64 mk.fp,.int .i64 mk.bk] 96)).cell? ⟨wr.heap.size,2,none⟩=some (.int .i64 mk.c.b):=block_cell1 HBX.out 2 _ rfl
   have x3:(wr.alloc (.cells #[.int .i64 kd,.int .i64 mk.c.a,.int .i64 mk.c.b,.int .i64 mk.c.f,.int .i64 mk.c.s,.slice o1 q1 c1,.slice o2 q2 c2,.int .i64 mk.c.pl,.int .i64 st,.int .i64 mk.fa,.int .i64 mk.fp,.int .i64 mk.bk] 96)).cell? ⟨wr.heap.size,3,none⟩=some (.int .i64 mk.c.f):=block_cell1 HBX.out 3 _ rfl
   have x4:(wr.alloc (.cells #[.int .i64 kd,.int .i64 mk.c.a,.int .i64 mk.c.b,.int .i64 mk.c.f,.int .i64 mk.c.s,.slice o1 q1 c1,.slice o2 q2 c2,.int .i64 mk.c.pl,.int .i64 st,.int .i64 mk.fa,.int .i64 mk.fp,.int .i64 mk.bk] 96)).cell? ⟨wr.heap.size,4,none⟩=some (.int .i64 mk.c.s):=block_cell1 HBX.out 4 _ rfl
   have x5:(wr.alloc (.cells #[.int .i64 kd,.int .i64 mk.c.a,.int .i64 mk.c.b,.int .i64 mk.c.f,.int .i64 mk.c.s,.slice o1 q1 c1,.slice o2 q2 c2,.int .i64 mk.c.pl,.int .i64 st,.int .i64 mk.fa,.int .i64 mk.fp,.int .i64 mk.bk] 96)).cell? ⟨wr.heap.size,5,none⟩=some (.slice o1 q1 c1):=block_cell1 HBX.out 5 _ rfl
   have x6:(wr.alloc (.cells #[.int .i64 kd,.int .i64 mk.c.a,.int .i64 mk.c.b,.int .i64 mk.c.f,.int .i64 mk.c.s,.slice o1 q1 c1,.slice o2 q2 c2,.int .i64 mk.c.pl,.int .i64 st,.int .i64 mk.fa,.int .i64 mk.fp,.int .i64 mk.bk] 96)).cell? ⟨wr.heap.size,6,none⟩=some (.slice o2 q2 c2):=block_cell1 HBX.out 6 _ rfl
   have x7:(wr.alloc (.cells #[.int .i64 kd,.int .i64 mk.c.a,.int .i64 mk.c.b,.int .i64 mk.c.f,.int .i64 mk.c.s,.slice o1 q1 c1,.slice o2 q2 c2,.int .i64 mk.c.pl,.int .i64 st,.int .i64 mk.fa,.int .i64 mk.fp,.int .i64 mk.bk] 96)).cell? ⟨wr.heap.size,7,none⟩=some (.int .i64 mk.c.pl):=block_cell1 HBX.out 7 _ rfl
   have x8:(wr.alloc (.cells #[.int .i64 kd,.int .i64 mk.c.a,.int .i64 mk.c.b,.int .i64 mk.c.f,.int .i64 mk.c.s,.slice o1 q1 c1,.slice o2 q2 c2,.int .i64 mk.c.pl,.int .i64 st,.int .i64 mk.fa,.int .i64 mk.fp,.int .i64 mk.bk] 96)).cell? ⟨wr.heap.size,8,none⟩=some (.int .i64 st):=block_cell1 HBX.out 8 _ rfl
   have x9:(wr.alloc (.cells #[.int .i64 kd,.int .i64 mk.c.a,.int .i64 mk.c.b,.int .i64 mk.c.f,.int .i64 mk.c.s,.slice o1 q1 c1,.slice o2 q2 c2,.int .i64 mk.c.pl,.int .i64 st,.int .i64 mk.fa,.int .i64 mk.fp,.int .i64 mk.bk] 96)).cell? ⟨wr.heap.size,9,none⟩=some (.int .i64 mk.fa):=block_cell1 HBX.out 9 _ rfl
   have x10:(wr.alloc (.cells #[.int .i64 kd,.int .i64 mk.c.a,.int .i64 mk.c.b,.int .i64 mk.c.f,.int .i64 mk.c.s,.slice o1 q1 c1,.slice o2 q2 c2,.int .i64 mk.c.pl,.int .i64 st,.int .i64 mk.fa,.int .i64 mk.fp,.int .i64 mk.bk] 96)).cell? ⟨wr.heap.size,10,none⟩=some (.int .i64 mk.fp):=block_cell1 HBX.out 10 _ rfl
   have x11:(wr.alloc (.cells #[.int .i64 kd,.int .i64 mk.c.a,.int .i64 mk.c.b,.int .i64 mk.c.f,.int .i64 mk.c.s,.slice o1 q1 c1,.slice o2 q2 c2,.int .i64 mk.c.pl,.int .i64 st,.int .i64 mk.fa,.int .i64 mk.fp,.int .i64 mk.bk] 96)).cell? ⟨wr.heap.size,11,none⟩=some (.int .i64 mk.bk):=block_cell1 HBX.out 11 _ rfl
   obtain ⟨B,hB⟩:∃q,opM mk=q:=⟨_,rfl⟩
   rw [hB] at HOC HY
   clear hB HOP z0 z1 z2 z3 z4 z5 z6 z7 z8 z9 z10 z11 z12
   go_wp2_with fail
   generalize (wr.alloc (.cells #[.int .i64 kd,.int .i64 mk.c.a,.int .i64 mk.c.b,.int .i64 mk.c.f,.int .i64 mk.c.s,.slice o1 q1 c1,.slice o2 q2 c2,.int .i64 mk.c.pl,.int .i64 st,.int .i64 mk.fa,.int .i64 mk.fp,.int .i64 mk.bk] 96))=w2 at *
   refine (HOC.out w2).mono ?_
   rintro e w3 ⟨rfl,hb⟩
   have bx3:=hp_on HBX.out hb
   have HXE:=hide (hp_on HX1.out hb)
   have HBE:=hide (HB1.out.trans (hb.mono HB1.out.size))
   clear hb x0 x1 x2 x3 x4 x5 x6 x7 x8 x9 x10 x11 p0 p1 p2 p3 p4 p5 p6 p7 p8 p9 p10 p11
   obtain ⟨z0,z1,z2,z3,z4,z5,z6,z7,z8,z9,z10,z11,z12,_⟩:=bx13 HXE.out
   have x0:w3.cell? ⟨wr.heap.size,0,none⟩=some (.int .i64 kd):=block_cell1 bx3 0 _ rfl
   have x1:w3.cell? ⟨wr.heap.size,1,none⟩=some (.int .i64 mk.c.a):=block_cell1 bx3 1 _ rfl
   have x2:w3.cell? ⟨wr.heap.size,2,none⟩=some (.int .i64 mk.c.b):=block_cell1 bx3 2 _ rfl
   have x3:w3.cell? ⟨wr.heap.size,3,none⟩=some (.int .i64 mk.c.f):=block_cell1 bx3 3 _ rfl
   have x4:w3.cell? ⟨wr.heap.size,4,none⟩=some (.int .i64 mk.c.s):=block_cell1 bx3 4 _ rfl
   have x5:w3.cell? ⟨wr.heap.size,5,none⟩=some (.slice o1 q1 c1):=block_cell1 bx3 5 _ rfl
   have x6:w3.cell? ⟨wr.heap.size,6,none⟩=some (.slice o2 q2 c2):=block_cell1 bx3 6 _ rfl
   have x7:w3.cell? ⟨wr.heap.size,7,none⟩=some (.int .i64 mk.c.pl):=block_cell1 bx3 7 _ rfl
   have x8:w3.cell? ⟨wr.heap.size,8,none⟩=some (.int .i64 st):=block_cell1 bx3 8 _ rfl
   have x9:w3.cell? ⟨wr.heap.size,9,none⟩=some (.int .i64 mk.fa):=block_cell1 bx3 9 _ rfl
   have x10:w3.cell? ⟨wr.heap.size,10,none⟩=some (.int .i64 mk.fp):=block_cell1 bx3 10 _ rfl
   have x11:w3.cell? ⟨wr.heap.size,11,none⟩=some (.int .i64 mk.bk):=block_cell1 bx3 11 _ rfl
   clear bx3
   cases B with
    |false=>
     go_wp2
     go_roundw
     case rel=> first
      |exact ⟨k+1,by omega,by go_num,by rw [HY.out];rfl,HBE.out,HXE.out⟩
      |(refine ⟨_, ?_,rfl⟩;exact ⟨k+1,by omega,by go_num,by rw [HY.out];rfl,HBE.out,HXE.out⟩)
     case measure=> simp [intOf];omega
    |true=>
     by_cases hgt:ag < now - st
     ·go_upto_region 6 with fail
      go_region
      go_wp2
      go_roundw
      case rel=> first
       |exact ⟨k+1,by omega,by go_num,by rw [HY.out];first|(simp [hgt];done)|(simp [hgt];omega),(Below.drew HBE.out),HXE.out⟩
       |(refine ⟨_, ?_,rfl⟩;exact ⟨k+1,by omega,by go_num,by rw [HY.out];first|(simp [hgt];done)|(simp [hgt];omega),(Below.drew HBE.out),HXE.out⟩)
      case measure=> simp [intOf];omega
     ·go_upto_region 6 with fail
      go_region
      go_wp2
      go_roundw
      case rel=> first
       |exact ⟨k+1,by omega,by go_num,by rw [HY.out];first|(simp [hgt];done)|(simp [hgt];omega),(Below.drew HBE.out),HXE.out⟩
       |(refine ⟨_, ?_,rfl⟩;exact ⟨k+1,by omega,by go_num,by rw [HY.out];first|(simp [hgt];done)|(simp [hgt];omega),(Below.drew HBE.out),HXE.out⟩)
      case measure=> simp [intOf];omega
  ·have ek:k=n:=by omega
   subst ek
   go_wp2
   refine bodyPost_ret (v:=.int .i64 (oldTo now m.bag k)) (by simp [results,Tryz.results80,go_sem]) rfl ⟨rfl,HBr.out⟩
theorem implOldest_in (lo hi:Nat) (v:Value) (m:Km) (w:World) (h:InKm lo hi w v m) (hh:hi≤w.heap.size) (hf:fitKm m):
  Calls Tryz.prog 34 #[v] w fun e w'=> e=.returned (.int .i64 (oldM m))∧Below w.heap.size w w':=by
 obtain ⟨kj,o,nj,c,sf,kp,ob,np,cb,oR,nr,cR,ot,nt,ct,oa,na,ca,om,nm,cm,og,ng,cg,ev,r1,r2,r3,r4,ea,em,eg⟩:=(h.rd.le hh).opn
 have HC:=hide (fun W (hb:Below w.heap.size w W)=> clusterFrom_any lo hi v m W (h.step (Stp.of (lo:=0) (hi:=0) hb) (.inl (Nat.zero_le _))) (Nat.le_trans hh hb.size) hf)
 have HF:=hide hf
 subst ev
 have HOM:Hid (oldM m=if okK m then oldTo m.now m.bag m.bag.length else -1):=rfl
 generalize hnow:m.now=now at *
 generalize m.rst=rst at *
 generalize m.gone=gone at *
 have HV:=hide hnow
 clear r1 r2 r3 r4 ea em eg h hh hf hnow
 have bx:=World.alloc_heap_new w (.cells #[.int .i64 now,.int .i64 kj,.slice o nj c,.int .i64 sf,.int .i64 kp,.slice ob np cb,.slice oR nr cR,.slice ot nt ct,.slice oa na ca,.slice om nm cm,.slice og ng cg,.int .i64 rst,.int .i64 gone] 56)
 have hb0:Below w.heap.size w (w.alloc (.cells #[.int .i64 now,.int .i64 kj,.slice o nj c,.int .i64 sf,.int .i64 kp,.slice ob np cb,.slice oR nr cR,.slice ot nt ct,.slice oa na ca,.slice om nm cm,.slice og ng cg,.int .i64 rst,.int .i64 gone] 56)):=(Below.refl _ _).alloc (Nat.le_refl _) _
 obtain ⟨z0,z1,z2,z3,z4,z5,z6,z7,z8,z9,z10,z11,z12,_⟩:=bx13 bx
 have HB:=hide hb0
 clear bx hb0
 go_enter Tryz.func34,Tryz.ntmps34
 go_wp2_with fail
 generalize (w.alloc (.cells #[.int .i64 now,.int .i64 kj,.slice o nj c,.int .i64 sf,.int .i64 kp,.slice ob np cb,.slice oR nr cR,.slice ot nt ct,.slice oa na ca,.slice om nm cm,.slice og ng cg,.int .i64 rst,.int .i64 gone] 56))=W0 at *
 refine (HC.out W0 HB.out).mono ?_
 rintro e w1 ⟨hc,hb⟩
 have HB1:=hide (HB.out.trans (hb.mono HB.out.size))
 clear hb z0 z1 z2 z3 z4 z5 z6 z7 z8 z9 z10 z11 z12
 rcases hc with ⟨hk,rfl⟩|⟨hk,P,rfl,hi1⟩
 ·have HK:=hide hk
  clear hk
  go_wp2
  refine bodyPost_ret (v:=.int .i64 (-1)) (by simp [results,Tryz.results34,go_sem]) rfl ⟨by rw [HOM.out,HK.out];rfl,HB1.out⟩
 ·have HK:=hide hk
  have HI:=hide hi1
  clear hk hi1
  go_wp2_with fail
  refine (oldest_any _ _ P m w1 HI.out (Nat.le_refl _) HK.out HF.out).mono ?_
  rintro e w2 ⟨rfl,hb⟩
  have HB2:=hide (HB1.out.trans (hb.mono HB1.out.size))
  clear hb
  rw [HV.out]
  obtain ⟨z,hz⟩:∃z,oldTo now m.bag m.bag.length=z:=⟨_,rfl⟩
  rw [hz] at HOM ⊢
  clear hz
  go_wp2
  refine bodyPost_ret (v:=.int .i64 z) (by simp [results,Tryz.results34,go_sem]) rfl ⟨by rw [HOM.out,HK.out];rfl,HB2.out⟩
theorem lawFnExactOldest (v:Value) (m:Km) (w:World) (hR:RdKm w.heap.size w v m) (hl:lenKm m):
  Calls Tryz.prog 9 #[v] w fun e w'=> e=.returned (.bool true)∧Below w.heap.size w w':=by
 obtain ⟨kja,oa,nja,ca,sfa,kpa,oba,npa,cba,oRa,nra,cRa,ota,nta,cta,oaa,naa,caa,oma,nma,cma,oga,nga,cga,eva,era⟩:=hR.opn
 subst eva
 clear era
 have bxa:(w.alloc (.cells #[.int .i64 m.now,.int .i64 kja,.slice oa nja ca,.int .i64 sfa,.int .i64 kpa,.slice oba npa cba,.slice oRa nra cRa,.slice ota nta cta,.slice oaa naa caa,.slice oma nma cma,.slice oga nga cga,.int .i64 m.rst,.int .i64 m.gone] 38)).heap[w.heap.size]? =some (.cells #[.int .i64 m.now,.int .i64 kja,.slice oa nja ca,.int .i64 sfa,.int .i64 kpa,.slice oba npa cba,.slice oRa nra cRa,.slice ota nta cta,.slice oaa naa caa,.slice oma nma cma,.slice oga nga cga,.int .i64 m.rst,.int .i64 m.gone] 38 (0,0)):=World.alloc_heap_new w (.cells #[.int .i64 m.now,.int .i64 kja,.slice oa nja ca,.int .i64 sfa,.int .i64 kpa,.slice oba npa cba,.slice oRa nra cRa,.slice ota nta cta,.slice oaa naa caa,.slice oma nma cma,.slice oga nga cga,.int .i64 m.rst,.int .i64 m.gone] 38)
 have hb_w0:Below w.heap.size w (w.alloc (.cells #[.int .i64 m.now,.int .i64 kja,.slice oa nja ca,.int .i64 sfa,.int .i64 kpa,.slice oba npa cba,.slice oRa nra cRa,.slice ota nta cta,.slice oaa naa caa,.slice oma nma cma,.slice oga nga cga,.int .i64 m.rst,.int .i64 m.gone] 38)):=(Below.refl _ _).alloc (Nat.le_refl _) _
 have hz_w0:w.heap.size < (w.alloc (.cells #[.int .i64 m.now,.int .i64 kja,.slice oa nja ca,.int .i64 sfa,.int .i64 kpa,.slice oba npa cba,.slice oRa nra cRa,.slice ota nta cta,.slice oaa naa caa,.slice oma nma cma,.slice oga nga cga,.int .i64 m.rst,.int .i64 m.gone] 38)).heap.size:=by simp
 have Hbxa:=hide bxa
 have Hb_:=hide hb_w0
 have HR:=hide hR
 clear bxa hb_w0 hR
 go_enter Tryz.func9,Tryz.ntmps9
 go_wp2_with fail
 have bxa:=Hbxa.out
 have hb_w0:=Hb_.out
 have hR:=HR.out
 clear Hbxa Hb_ HR
 generalize w.alloc (.cells #[.int .i64 m.now,.int .i64 kja,.slice oa nja ca,.int .i64 sfa,.int .i64 kpa,.slice oba npa cba,.slice oRa nra cRa,.slice ota nta cta,.slice oaa naa caa,.slice oma nma cma,.slice oga nga cga,.int .i64 m.rst,.int .i64 m.gone] 38)=w0 at *
 have B_w0:=hb_w0
 clear hb_w0
 refine (szCluster_sh _ m w0 ((hR.kept B_w0 (Nat.le_refl _)).le B_w0.size) hl).mono ?_
 rintro e w1 ⟨⟨zz,rfl,hz⟩,hb_w1⟩
 replace bxa:=(hb_w1.block _ (by omega)).trans bxa
 have B_w1:Below w.heap.size w w1:=B_w0.trans (hb_w1.mono B_w0.size)
 have hs_w1:w0.heap.size≤w1.heap.size:=hb_w1.size
 clear hb_w1 B_w0
 rcases hz with ⟨hz1,hz2⟩|⟨hz1,hz2,hf⟩
 ·have Hbxa:=hide bxa
  clear bxa
  have HB_:=hide B_w1
  clear B_w1
  go_wp2
  go_ret
  exact ⟨rfl,HB_.out⟩
 ·have HS:=hide (fun lo hi v w h hh=> specOldest_in lo hi v m w h hh hf)
  have HI:=hide (fun lo hi v w h hh=> implOldest_in lo hi v m w h hh hf)
  generalize oldM m=t at *
  have HF:=hide hf
  clear hf
  have bxac0:w1.cell? ⟨w.heap.size,0,none⟩=some (.int .i64 m.now):=block_cell1 bxa 0 _ rfl
  have bxac1:w1.cell? ⟨w.heap.size,1,none⟩=some (.int .i64 kja):=block_cell1 bxa 1 _ rfl
  have bxac2:w1.cell? ⟨w.heap.size,2,none⟩=some (.slice oa nja ca):=block_cell1 bxa 2 _ rfl
  have bxac3:w1.cell? ⟨w.heap.size,3,none⟩=some (.int .i64 sfa):=block_cell1 bxa 3 _ rfl
  have bxac4:w1.cell? ⟨w.heap.size,4,none⟩=some (.int .i64 kpa):=block_cell1 bxa 4 _ rfl
  have bxac5:w1.cell? ⟨w.heap.size,5,none⟩=some (.slice oba npa cba):=block_cell1 bxa 5 _ rfl
  have bxac6:w1.cell? ⟨w.heap.size,6,none⟩=some (.slice oRa nra cRa):=block_cell1 bxa 6 _ rfl
  have bxac7:w1.cell? ⟨w.heap.size,7,none⟩=some (.slice ota nta cta):=block_cell1 bxa 7 _ rfl
  have bxac8:w1.cell? ⟨w.heap.size,8,none⟩=some (.slice oaa naa caa):=block_cell1 bxa 8 _ rfl
  have bxac9:w1.cell? ⟨w.heap.size,9,none⟩=some (.slice oma nma cma):=block_cell1 bxa 9 _ rfl
  have bxac10:w1.cell? ⟨w.heap.size,10,none⟩=some (.slice oga nga cga):=block_cell1 bxa 10 _ rfl
  have bxac11:w1.cell? ⟨w.heap.size,11,none⟩=some (.int .i64 m.rst):=block_cell1 bxa 11 _ rfl
  have bxac12:w1.cell? ⟨w.heap.size,12,none⟩=some (.int .i64 m.gone):=block_cell1 bxa 12 _ rfl
  have Hbxa:=hide bxa
  clear bxa
  have HB_:=hide B_w1
  clear B_w1
  go_wp2_with fail
  clear bxac0 bxac1 bxac2 bxac3 bxac4 bxac5 bxac6 bxac7 bxac8 bxac9 bxac10 bxac11 bxac12
  have bxa:=Hbxa.out
  clear Hbxa
  have B_w1:=HB_.out
  clear HB_
  refine (toCluster_sh _ m w1 ((hR.kept B_w1 (Nat.le_refl _)).le B_w1.size) HF.out).mono ?_
  rintro e w2 ⟨v2,rfl,in2,hb_w2⟩
  replace bxa:=(hb_w2.block _ (by omega)).trans bxa
  have B_w2:Below w.heap.size w w2:=B_w1.trans (hb_w2.mono B_w1.size)
  have hs_w2:w1.heap.size≤w2.heap.size:=hb_w2.size
  clear hb_w2 B_w1
  have Hbxa:=hide bxa
  clear bxa
  have Hin2:=hide in2
  clear in2
  have HB_:=hide B_w2
  clear B_w2
  go_wp2_with fail
  have bxa:=Hbxa.out
  clear Hbxa
  have in2:=Hin2.out
  clear Hin2
  have B_w2:=HB_.out
  clear HB_
  refine (HS.out _ _ _ w2 in2 (by omega)).mono ?_
  rintro e w3 ⟨rfl,hb_w3⟩
  replace bxa:=(hb_w3.block _ (by omega)).trans bxa
  replace in2:=in2.step (Stp.of (lo:=0) (hi:=0) hb_w3) (.inl (Nat.zero_le _))
  have B_w3:Below w.heap.size w w3:=B_w2.trans (hb_w3.mono B_w2.size)
  have hs_w3:w2.heap.size≤w3.heap.size:=hb_w3.size
  clear hb_w3 B_w2
  clear in2
  have bxac0:w3.cell? ⟨w.heap.size,0,none⟩=some (.int .i64 m.now):=block_cell1 bxa 0 _ rfl
  have bxac1:w3.cell? ⟨w.heap.size,1,none⟩=some (.int .i64 kja):=block_cell1 bxa 1 _ rfl
  have bxac2:w3.cell? ⟨w.heap.size,2,none⟩=some (.slice oa nja ca):=block_cell1 bxa 2 _ rfl
  have bxac3:w3.cell? ⟨w.heap.size,3,none⟩=some (.int .i64 sfa):=block_cell1 bxa 3 _ rfl
  have bxac4:w3.cell? ⟨w.heap.size,4,none⟩=some (.int .i64 kpa):=block_cell1 bxa 4 _ rfl
  have bxac5:w3.cell? ⟨w.heap.size,5,none⟩=some (.slice oba npa cba):=block_cell1 bxa 5 _ rfl
  have bxac6:w3.cell? ⟨w.heap.size,6,none⟩=some (.slice oRa nra cRa):=block_cell1 bxa 6 _ rfl
  have bxac7:w3.cell? ⟨w.heap.size,7,none⟩=some (.slice ota nta cta):=block_cell1 bxa 7 _ rfl
  have bxac8:w3.cell? ⟨w.heap.size,8,none⟩=some (.slice oaa naa caa):=block_cell1 bxa 8 _ rfl
  have bxac9:w3.cell? ⟨w.heap.size,9,none⟩=some (.slice oma nma cma):=block_cell1 bxa 9 _ rfl
  have bxac10:w3.cell? ⟨w.heap.size,10,none⟩=some (.slice oga nga cga):=block_cell1 bxa 10 _ rfl
  have bxac11:w3.cell? ⟨w.heap.size,11,none⟩=some (.int .i64 m.rst):=block_cell1 bxa 11 _ rfl
  have bxac12:w3.cell? ⟨w.heap.size,12,none⟩=some (.int .i64 m.gone):=block_cell1 bxa 12 _ rfl
  have Hbxa:=hide bxa
  clear bxa
  have HB_:=hide B_w3
  clear B_w3
  go_wp2_with fail
  clear bxac0 bxac1 bxac2 bxac3 bxac4 bxac5 bxac6 bxac7 bxac8 bxac9 bxac10 bxac11 bxac12
  have bxa:=Hbxa.out
  clear Hbxa
  have B_w3:=HB_.out
  clear HB_
  refine (toCluster_sh _ m w3 ((hR.kept B_w3 (Nat.le_refl _)).le B_w3.size) HF.out).mono ?_
  rintro e w4 ⟨vx,rfl,inx,hb_w4⟩
  replace bxa:=(hb_w4.block _ (by omega)).trans bxa
  have B_w4:Below w.heap.size w w4:=B_w3.trans (hb_w4.mono B_w3.size)
  have hs_w4:w3.heap.size≤w4.heap.size:=hb_w4.size
  clear hb_w4 B_w3
  obtain ⟨kjx,ox,njx,cx,sfx,kpx,obx,npx,cbx,oRx,nrx,cRx,otx,ntx,ctx,oax,nax,cax,omx,nmx,cmx,ogx,ngx,cgx,evx,erx⟩:=inx.rd.opn
  subst evx
  clear erx
  have bxx:(w4.alloc (.cells #[.int .i64 m.now,.int .i64 kjx,.slice ox njx cx,.int .i64 sfx,.int .i64 kpx,.slice obx npx cbx,.slice oRx nrx cRx,.slice otx ntx ctx,.slice oax nax cax,.slice omx nmx cmx,.slice ogx ngx cgx,.int .i64 m.rst,.int .i64 m.gone] 56)).heap[w4.heap.size]? =some (.cells #[.int .i64 m.now,.int .i64 kjx,.slice ox njx cx,.int .i64 sfx,.int .i64 kpx,.slice obx npx cbx,.slice oRx nrx cRx,.slice otx ntx ctx,.slice oax nax cax,.slice omx nmx cmx,.slice ogx ngx cgx,.int .i64 m.rst,.int .i64 m.gone] 56 (0,0)):=World.alloc_heap_new w4 (.cells #[.int .i64 m.now,.int .i64 kjx,.slice ox njx cx,.int .i64 sfx,.int .i64 kpx,.slice obx npx cbx,.slice oRx nrx cRx,.slice otx ntx ctx,.slice oax nax cax,.slice omx nmx cmx,.slice ogx ngx cgx,.int .i64 m.rst,.int .i64 m.gone] 56)
  have hb_w5:Below w4.heap.size w4 (w4.alloc (.cells #[.int .i64 m.now,.int .i64 kjx,.slice ox njx cx,.int .i64 sfx,.int .i64 kpx,.slice obx npx cbx,.slice oRx nrx cRx,.slice otx ntx ctx,.slice oax nax cax,.slice omx nmx cmx,.slice ogx ngx cgx,.int .i64 m.rst,.int .i64 m.gone] 56)):=(Below.refl _ _).alloc (Nat.le_refl _) _
  have hz_w5:w4.heap.size < (w4.alloc (.cells #[.int .i64 m.now,.int .i64 kjx,.slice ox njx cx,.int .i64 sfx,.int .i64 kpx,.slice obx npx cbx,.slice oRx nrx cRx,.slice otx ntx ctx,.slice oax nax cax,.slice omx nmx cmx,.slice ogx ngx cgx,.int .i64 m.rst,.int .i64 m.gone] 56)).heap.size:=by simp
  have bxxc0:(w4.alloc (.cells #[.int .i64 m.now,.int .i64 kjx,.slice ox njx cx,.int .i64 sfx,.int .i64 kpx,.slice obx npx cbx,.slice oRx nrx cRx,.slice otx ntx ctx,.slice oax nax cax,.slice omx nmx cmx,.slice ogx ngx cgx,.int .i64 m.rst,.int .i64 m.gone] 56)).cell? ⟨w4.heap.size,0,none⟩=some (.int .i64 m.now):=block_cell1 bxx 0 _ rfl
  have bxxc1:(w4.alloc (.cells #[.int .i64 m.now,.int .i64 kjx,.slice ox njx cx,.int .i64 sfx,.int .i64 kpx,.slice obx npx cbx,.slice oRx nrx cRx,.slice otx ntx ctx,.slice oax nax cax,.slice omx nmx cmx,.slice ogx ngx cgx,.int .i64 m.rst,.int .i64 m.gone] 56)).cell? ⟨w4.heap.size,1,none⟩=some (.int .i64 kjx):=block_cell1 bxx 1 _ rfl
  have bxxc2:(w4.alloc (.cells #[.int .i64 m.now,.int .i64 kjx,.slice ox njx cx,.int .i64 sfx,.int .i64 kpx,.slice obx npx cbx,.slice oRx nrx cRx,.slice otx ntx ctx,.slice oax nax cax,.slice omx nmx cmx,.slice ogx ngx cgx,.int .i64 m.rst,.int .i64 m.gone] 56)).cell? ⟨w4.heap.size,2,none⟩=some (.slice ox njx cx):=block_cell1 bxx 2 _ rfl
  have bxxc3:(w4.alloc (.cells #[.int .i64 m.now,.int .i64 kjx,.slice ox njx cx,.int .i64 sfx,.int .i64 kpx,.slice obx npx cbx,.slice oRx nrx cRx,.slice otx ntx ctx,.slice oax nax cax,.slice omx nmx cmx,.slice ogx ngx cgx,.int .i64 m.rst,.int .i64 m.gone] 56)).cell? ⟨w4.heap.size,3,none⟩=some (.int .i64 sfx):=block_cell1 bxx 3 _ rfl
  have bxxc4:(w4.alloc (.cells #[.int .i64 m.now,.int .i64 kjx,.slice ox njx cx,.int .i64 sfx,.int .i64 kpx,.slice obx npx cbx,.slice oRx nrx cRx,.slice otx ntx ctx,.slice oax nax cax,.slice omx nmx cmx,.slice ogx ngx cgx,.int .i64 m.rst,.int .i64 m.gone] 56)).cell? ⟨w4.heap.size,4,none⟩=some (.int .i64 kpx):=block_cell1 bxx 4 _ rfl
  have bxxc5:(w4.alloc (.cells #[.int .i64 m.now,.int .i64 kjx,.slice ox njx cx,.int .i64 sfx,.int .i64 kpx,.slice obx npx cbx,.slice oRx nrx cRx,.slice otx ntx ctx,.slice oax nax cax,.slice omx nmx cmx,.slice ogx ngx cgx,.int .i64 m.rst,.int .i64 m.gone] 56)).cell? ⟨w4.heap.size,5,none⟩=some (.slice obx npx cbx):=block_cell1 bxx 5 _ rfl
  have bxxc6:(w4.alloc (.cells #[.int .i64 m.now,.int .i64 kjx,.slice ox njx cx,.int .i64 sfx,.int .i64 kpx,.slice obx npx cbx,.slice oRx nrx cRx,.slice otx ntx ctx,.slice oax nax cax,.slice omx nmx cmx,.slice ogx ngx cgx,.int .i64 m.rst,.int .i64 m.gone] 56)).cell? ⟨w4.heap.size,6,none⟩=some (.slice oRx nrx cRx):=block_cell1 bxx 6 _ rfl
  have bxxc7:(w4.alloc (.cells #[.int .i64 m.now,.int .i64 kjx,.slice ox njx cx,.int .i64 sfx,.int .i64 kpx,.slice obx npx cbx,.slice oRx nrx cRx,.slice otx ntx ctx,.slice oax nax cax,.slice omx nmx cmx,.slice ogx ngx cgx,.int .i64 m.rst,.int .i64 m.gone] 56)).cell? ⟨w4.heap.size,7,none⟩=some (.slice otx ntx ctx):=block_cell1 bxx 7 _ rfl
  have bxxc8:(w4.alloc (.cells #[.int .i64 m.now,.int .i64 kjx,.slice ox njx cx,.int .i64 sfx,.int .i64 kpx,.slice obx npx cbx,.slice oRx nrx cRx,.slice otx ntx ctx,.slice oax nax cax,.slice omx nmx cmx,.slice ogx ngx cgx,.int .i64 m.rst,.int .i64 m.gone] 56)).cell? ⟨w4.heap.size,8,none⟩=some (.slice oax nax cax):=block_cell1 bxx 8 _ rfl
  have bxxc9:(w4.alloc (.cells #[.int .i64 m.now,.int .i64 kjx,.slice ox njx cx,.int .i64 sfx,.int .i64 kpx,.slice obx npx cbx,.slice oRx nrx cRx,.slice otx ntx ctx,.slice oax nax cax,.slice omx nmx cmx,.slice ogx ngx cgx,.int .i64 m.rst,.int .i64 m.gone] 56)).cell? ⟨w4.heap.size,9,none⟩=some (.slice omx nmx cmx):=block_cell1 bxx 9 _ rfl
  have bxxc10:(w4.alloc (.cells #[.int .i64 m.now,.int .i64 kjx,.slice ox njx cx,.int .i64 sfx,.int .i64 kpx,.slice obx npx cbx,.slice oRx nrx cRx,.slice otx ntx ctx,.slice oax nax cax,.slice omx nmx cmx,.slice ogx ngx cgx,.int .i64 m.rst,.int .i64 m.gone] 56)).cell? ⟨w4.heap.size,10,none⟩=some (.slice ogx ngx cgx):=block_cell1 bxx 10 _ rfl
  have bxxc11:(w4.alloc (.cells #[.int .i64 m.now,.int .i64 kjx,.slice ox njx cx,.int .i64 sfx,.int .i64 kpx,.slice obx npx cbx,.slice oRx nrx cRx,.slice otx ntx ctx,.slice oax nax cax,.slice omx nmx cmx,.slice ogx ngx cgx,.int .i64 m.rst,.int .i64 m.gone] 56)).cell? ⟨w4.heap.size,11,none⟩=some (.int .i64 m.rst):=block_cell1 bxx 11 _ rfl
  have bxxc12:(w4.alloc (.cells #[.int .i64 m.now,.int .i64 kjx,.slice ox njx cx,.int .i64 sfx,.int .i64 kpx,.slice obx npx cbx,.slice oRx nrx cRx,.slice otx ntx ctx,.slice oax nax cax,.slice omx nmx cmx,.slice ogx ngx cgx,.int .i64 m.rst,.int .i64 m.gone] 56)).cell? ⟨w4.heap.size,12,none⟩=some (.int .i64 m.gone):=block_cell1 bxx 12 _ rfl
  have Hbxx:=hide bxx
  have Hb_:=hide hb_w5
  clear bxx hb_w5
  have Hbxa:=hide bxa
  clear bxa
  have Hinx:=hide inx
  clear inx
  have HB_:=hide B_w4
  clear B_w4
  go_wp2_with fail
  clear bxxc0 bxxc1 bxxc2 bxxc3 bxxc4 bxxc5 bxxc6 bxxc7 bxxc8 bxxc9 bxxc10 bxxc11 bxxc12
  have bxa:=Hbxa.out
  clear Hbxa
  have inx:=Hinx.out
  clear Hinx
  have B_w4:=HB_.out
  clear HB_
  have bxx:=Hbxx.out
  have hb_w5:=Hb_.out
  clear Hbxx Hb_
  generalize w4.alloc (.cells #[.int .i64 m.now,.int .i64 kjx,.slice ox njx cx,.int .i64 sfx,.int .i64 kpx,.slice obx npx cbx,.slice oRx nrx cRx,.slice otx ntx ctx,.slice oax nax cax,.slice omx nmx cmx,.slice ogx ngx cgx,.int .i64 m.rst,.int .i64 m.gone] 56)=w5 at *
  replace bxa:=(hb_w5.block _ (by omega)).trans bxa
  replace inx:=inx.step (Stp.of (lo:=0) (hi:=0) hb_w5) (.inl (Nat.zero_le _))
  have B_w5:Below w.heap.size w w5:=B_w4.trans (hb_w5.mono B_w4.size)
  have hs_w5:w4.heap.size≤w5.heap.size:=hb_w5.size
  clear hb_w5 B_w4
  refine (HI.out _ _ _ w5 inx (by omega)).mono ?_
  rintro e w6 ⟨rfl,hb_w6⟩
  replace bxa:=(hb_w6.block _ (by omega)).trans bxa
  replace inx:=inx.step (Stp.of (lo:=0) (hi:=0) hb_w6) (.inl (Nat.zero_le _))
  replace bxx:=(hb_w6.block _ (by omega)).trans bxx
  have B_w6:Below w.heap.size w w6:=B_w5.trans (hb_w6.mono B_w5.size)
  have hs_w6:w5.heap.size≤w6.heap.size:=hb_w6.size
  clear hb_w6 B_w5
  have bxac0:w6.cell? ⟨w.heap.size,0,none⟩=some (.int .i64 m.now):=block_cell1 bxa 0 _ rfl
  have bxac1:w6.cell? ⟨w.heap.size,1,none⟩=some (.int .i64 kja):=block_cell1 bxa 1 _ rfl
  have bxac2:w6.cell? ⟨w.heap.size,2,none⟩=some (.slice oa nja ca):=block_cell1 bxa 2 _ rfl
  have bxac3:w6.cell? ⟨w.heap.size,3,none⟩=some (.int .i64 sfa):=block_cell1 bxa 3 _ rfl
  have bxac4:w6.cell? ⟨w.heap.size,4,none⟩=some (.int .i64 kpa):=block_cell1 bxa 4 _ rfl
  have bxac5:w6.cell? ⟨w.heap.size,5,none⟩=some (.slice oba npa cba):=block_cell1 bxa 5 _ rfl
  have bxac6:w6.cell? ⟨w.heap.size,6,none⟩=some (.slice oRa nra cRa):=block_cell1 bxa 6 _ rfl
  have bxac7:w6.cell? ⟨w.heap.size,7,none⟩=some (.slice ota nta cta):=block_cell1 bxa 7 _ rfl
  have bxac8:w6.cell? ⟨w.heap.size,8,none⟩=some (.slice oaa naa caa):=block_cell1 bxa 8 _ rfl
  have bxac9:w6.cell? ⟨w.heap.size,9,none⟩=some (.slice oma nma cma):=block_cell1 bxa 9 _ rfl
  have bxac10:w6.cell? ⟨w.heap.size,10,none⟩=some (.slice oga nga cga):=block_cell1 bxa 10 _ rfl
  have bxac11:w6.cell? ⟨w.heap.size,11,none⟩=some (.int .i64 m.rst):=block_cell1 bxa 11 _ rfl
  have bxac12:w6.cell? ⟨w.heap.size,12,none⟩=some (.int .i64 m.gone):=block_cell1 bxa 12 _ rfl
  have bxxc0:w6.cell? ⟨w4.heap.size,0,none⟩=some (.int .i64 m.now):=block_cell1 bxx 0 _ rfl
  have bxxc1:w6.cell? ⟨w4.heap.size,1,none⟩=some (.int .i64 kjx):=block_cell1 bxx 1 _ rfl
  have bxxc2:w6.cell? ⟨w4.heap.size,2,none⟩=some (.slice ox njx cx):=block_cell1 bxx 2 _ rfl
  have bxxc3:w6.cell? ⟨w4.heap.size,3,none⟩=some (.int .i64 sfx):=block_cell1 bxx 3 _ rfl
  have bxxc4:w6.cell? ⟨w4.heap.size,4,none⟩=some (.int .i64 kpx):=block_cell1 bxx 4 _ rfl
  have bxxc5:w6.cell? ⟨w4.heap.size,5,none⟩=some (.slice obx npx cbx):=block_cell1 bxx 5 _ rfl
  have bxxc6:w6.cell? ⟨w4.heap.size,6,none⟩=some (.slice oRx nrx cRx):=block_cell1 bxx 6 _ rfl
  have bxxc7:w6.cell? ⟨w4.heap.size,7,none⟩=some (.slice otx ntx ctx):=block_cell1 bxx 7 _ rfl
  have bxxc8:w6.cell? ⟨w4.heap.size,8,none⟩=some (.slice oax nax cax):=block_cell1 bxx 8 _ rfl
  have bxxc9:w6.cell? ⟨w4.heap.size,9,none⟩=some (.slice omx nmx cmx):=block_cell1 bxx 9 _ rfl
  have bxxc10:w6.cell? ⟨w4.heap.size,10,none⟩=some (.slice ogx ngx cgx):=block_cell1 bxx 10 _ rfl
  have bxxc11:w6.cell? ⟨w4.heap.size,11,none⟩=some (.int .i64 m.rst):=block_cell1 bxx 11 _ rfl
  have bxxc12:w6.cell? ⟨w4.heap.size,12,none⟩=some (.int .i64 m.gone):=block_cell1 bxx 12 _ rfl
  have Hbxa:=hide bxa
  clear bxa
  have Hinx:=hide inx
  clear inx
  have Hbxx:=hide bxx
  clear bxx
  have HB_:=hide B_w6
  clear B_w6
  go_wp2
  have hka:w.heap.size < w6.heap.size:=by omega
  have hkx:w4.heap.size < w6.heap.size:=by omega
  have d_0:w6.drew.cell? ⟨w.heap.size,0,none⟩=some (.int .i64 m.now):=bxac0
  have d_1:w6.drew.cell? ⟨w.heap.size,1,none⟩=some (.int .i64 kja):=bxac1
  have d_2:w6.drew.cell? ⟨w.heap.size,2,none⟩=some (.slice oa nja ca):=bxac2
  have d_3:w6.drew.cell? ⟨w.heap.size,3,none⟩=some (.int .i64 sfa):=bxac3
  have d_4:w6.drew.cell? ⟨w.heap.size,4,none⟩=some (.int .i64 kpa):=bxac4
  have d_5:w6.drew.cell? ⟨w.heap.size,5,none⟩=some (.slice oba npa cba):=bxac5
  have d_6:w6.drew.cell? ⟨w.heap.size,6,none⟩=some (.slice oRa nra cRa):=bxac6
  have d_7:w6.drew.cell? ⟨w.heap.size,7,none⟩=some (.slice ota nta cta):=bxac7
  have d_8:w6.drew.cell? ⟨w.heap.size,8,none⟩=some (.slice oaa naa caa):=bxac8
  have d_9:w6.drew.cell? ⟨w.heap.size,9,none⟩=some (.slice oma nma cma):=bxac9
  have d_10:w6.drew.cell? ⟨w.heap.size,10,none⟩=some (.slice oga nga cga):=bxac10
  have d_11:w6.drew.cell? ⟨w.heap.size,11,none⟩=some (.int .i64 m.rst):=bxac11
  have d_12:w6.drew.cell? ⟨w.heap.size,12,none⟩=some (.int .i64 m.gone):=bxac12
  have d_13:w6.drew.cell? ⟨w4.heap.size,0,none⟩=some (.int .i64 m.now):=bxxc0
  have d_14:w6.drew.cell? ⟨w4.heap.size,1,none⟩=some (.int .i64 kjx):=bxxc1
  have d_15:w6.drew.cell? ⟨w4.heap.size,2,none⟩=some (.slice ox njx cx):=bxxc2
  have d_16:w6.drew.cell? ⟨w4.heap.size,3,none⟩=some (.int .i64 sfx):=bxxc3
  have d_17:w6.drew.cell? ⟨w4.heap.size,4,none⟩=some (.int .i64 kpx):=bxxc4
  have d_18:w6.drew.cell? ⟨w4.heap.size,5,none⟩=some (.slice obx npx cbx):=bxxc5
  have d_19:w6.drew.cell? ⟨w4.heap.size,6,none⟩=some (.slice oRx nrx cRx):=bxxc6
  have d_20:w6.drew.cell? ⟨w4.heap.size,7,none⟩=some (.slice otx ntx ctx):=bxxc7
  have d_21:w6.drew.cell? ⟨w4.heap.size,8,none⟩=some (.slice oax nax cax):=bxxc8
  have d_22:w6.drew.cell? ⟨w4.heap.size,9,none⟩=some (.slice omx nmx cmx):=bxxc9
  have d_23:w6.drew.cell? ⟨w4.heap.size,10,none⟩=some (.slice ogx ngx cgx):=bxxc10
  have d_24:w6.drew.cell? ⟨w4.heap.size,11,none⟩=some (.int .i64 m.rst):=bxxc11
  have d_25:w6.drew.cell? ⟨w4.heap.size,12,none⟩=some (.int .i64 m.gone):=bxxc12
  go_region_held3 (fun w'=> w'.cell? ⟨w.heap.size,0,none⟩=some (.int .i64 m.now)∧w'.cell? ⟨w.heap.size,1,none⟩=some (.int .i64 kja)∧w'.cell? ⟨w.heap.size,2,none⟩=some (.slice oa nja ca)∧w'.cell? ⟨w.heap.size,3,none⟩=some (.int .i64 sfa)∧w'.cell? ⟨w.heap.size,4,none⟩=some (.int .i64 kpa)∧w'.cell? ⟨w.heap.size,5,none⟩=some (.slice oba npa cba)∧w'.cell? ⟨w.heap.size,6,none⟩=some (.slice oRa nra cRa)∧w'.cell? ⟨w.heap.size,7,none⟩=some (.slice ota nta cta)∧w'.cell? ⟨w.heap.size,8,none⟩=some (.slice oaa naa caa)∧w'.cell? ⟨w.heap.size,9,none⟩=some (.slice oma nma cma)∧w'.cell? ⟨w.heap.size,10,none⟩=some (.slice oga nga cga)∧w'.cell? ⟨w.heap.size,11,none⟩=some (.int .i64 m.rst)∧w'.cell? ⟨w.heap.size,12,none⟩=some (.int .i64 m.gone)∧w'.cell? ⟨w4.heap.size,0,none⟩=some (.int .i64 m.now)∧w'.cell? ⟨w4.heap.size,1,none⟩=some (.int .i64 kjx)∧w'.cell? ⟨w4.heap.size,2,none⟩=some (.slice ox njx cx)∧w'.cell? ⟨w4.heap.size,3,none⟩=some (.int .i64 sfx)∧w'.cell? ⟨w4.heap.size,4,none⟩=some (.int .i64 kpx)∧w'.cell? ⟨w4.heap.size,5,none⟩=some (.slice obx npx cbx)∧w'.cell? ⟨w4.heap.size,6,none⟩=some (.slice oRx nrx cRx)∧w'.cell? ⟨w4.heap.size,7,none⟩=some (.slice otx ntx ctx)∧w'.cell? ⟨w4.heap.size,8,none⟩=some (.slice oax nax cax)∧w'.cell? ⟨w4.heap.size,9,none⟩=some (.slice omx nmx cmx)∧w'.cell? ⟨w4.heap.size,10,none⟩=some (.slice ogx ngx cgx)∧w'.cell? ⟨w4.heap.size,11,none⟩=some (.int .i64 m.rst)∧w'.cell? ⟨w4.heap.size,12,none⟩=some (.int .i64 m.gone)) (first|with_reducible exact ⟨q0,q1,q2,q3,q4,q5,q6,q7,q8,q9,q10,q11,q12,q13,q14,q15,q16,q17,q18,q19,q20,q21,q22,q23,q24,q25⟩|with_reducible exact ⟨p0,p1,p2,p3,p4,p5,p6,p7,p8,p9,p10,p11,p12,p13,p14,p15,p16,p17,p18,p19,p20,p21,p22,p23,p24,p25⟩|with_reducible exact ⟨d_0,d_1,d_2,d_3,d_4,d_5,d_6,d_7,d_8,d_9,d_10,d_11,d_12,d_13,d_14,d_15,d_16,d_17,d_18,d_19,d_20,d_21,d_22,d_23,d_24,d_25⟩) (first|(go_at_call 13;refine (toCluster_sh _ m w6.drew ((hR.kept (Below.drew HB_.out) (Nat.le_refl _)).le HB_.out.size) HF.out).mono ?_;rintro e w7 ⟨va,rfl,ina,hba⟩;replace hba:Below w6.heap.size w6 w7:=(Below.drew (Below.refl _ _)).trans hba;have p0:=(hba.cell (p:=⟨w.heap.size,0,none⟩) hka).trans bxac0;have p1:=(hba.cell (p:=⟨w.heap.size,1,none⟩) hka).trans bxac1;have p2:=(hba.cell (p:=⟨w.heap.size,2,none⟩) hka).trans bxac2;have p3:=(hba.cell (p:=⟨w.heap.size,3,none⟩) hka).trans bxac3;have p4:=(hba.cell (p:=⟨w.heap.size,4,none⟩) hka).trans bxac4;have p5:=(hba.cell (p:=⟨w.heap.size,5,none⟩) hka).trans bxac5;have p6:=(hba.cell (p:=⟨w.heap.size,6,none⟩) hka).trans bxac6;have p7:=(hba.cell (p:=⟨w.heap.size,7,none⟩) hka).trans bxac7;have p8:=(hba.cell (p:=⟨w.heap.size,8,none⟩) hka).trans bxac8;have p9:=(hba.cell (p:=⟨w.heap.size,9,none⟩) hka).trans bxac9;have p10:=(hba.cell (p:=⟨w.heap.size,10,none⟩) hka).trans bxac10;have p11:=(hba.cell (p:=⟨w.heap.size,11,none⟩) hka).trans bxac11;have p12:=(hba.cell (p:=⟨w.heap.size,12,none⟩) hka).trans bxac12;have p13:=(hba.cell (p:=⟨w4.heap.size,0,none⟩) hkx).trans bxxc0;have p14:=(hba.cell (p:=⟨w4.heap.size,1,none⟩) hkx).trans bxxc1;have p15:=(hba.cell (p:=⟨w4.heap.size,2,none⟩) hkx).trans bxxc2;have p16:=(hba.cell (p:=⟨w4.heap.size,3,none⟩) hkx).trans bxxc3;have p17:=(hba.cell (p:=⟨w4.heap.size,4,none⟩) hkx).trans bxxc4;have p18:=(hba.cell (p:=⟨w4.heap.size,5,none⟩) hkx).trans bxxc5;have p19:=(hba.cell (p:=⟨w4.heap.size,6,none⟩) hkx).trans bxxc6;have p20:=(hba.cell (p:=⟨w4.heap.size,7,none⟩) hkx).trans bxxc7;have p21:=(hba.cell (p:=⟨w4.heap.size,8,none⟩) hkx).trans bxxc8;have p22:=(hba.cell (p:=⟨w4.heap.size,9,none⟩) hkx).trans bxxc9;have p23:=(hba.cell (p:=⟨w4.heap.size,10,none⟩) hkx).trans bxxc10;have p24:=(hba.cell (p:=⟨w4.heap.size,11,none⟩) hkx).trans bxxc11;have p25:=(hba.cell (p:=⟨w4.heap.size,12,none⟩) hkx).trans bxxc12)|(go_at_call 15;refine (eqCluster_sh _ _ m w7 ((Hinx.out.rd.kept hba (by omega)).le (by have:=hba.size;omega)) (ina.rd.le (Nat.le_refl _)) HF.out).mono ?_;rintro e w8 ⟨rfl,hbb⟩;replace hbb:Below w6.heap.size w6 w8:=hba.trans (hbb.mono hba.size);have q0:=(hbb.cell (p:=⟨w.heap.size,0,none⟩) hka).trans bxac0;have q1:=(hbb.cell (p:=⟨w.heap.size,1,none⟩) hka).trans bxac1;have q2:=(hbb.cell (p:=⟨w.heap.size,2,none⟩) hka).trans bxac2;have q3:=(hbb.cell (p:=⟨w.heap.size,3,none⟩) hka).trans bxac3;have q4:=(hbb.cell (p:=⟨w.heap.size,4,none⟩) hka).trans bxac4;have q5:=(hbb.cell (p:=⟨w.heap.size,5,none⟩) hka).trans bxac5;have q6:=(hbb.cell (p:=⟨w.heap.size,6,none⟩) hka).trans bxac6;have q7:=(hbb.cell (p:=⟨w.heap.size,7,none⟩) hka).trans bxac7;have q8:=(hbb.cell (p:=⟨w.heap.size,8,none⟩) hka).trans bxac8;have q9:=(hbb.cell (p:=⟨w.heap.size,9,none⟩) hka).trans bxac9;have q10:=(hbb.cell (p:=⟨w.heap.size,10,none⟩) hka).trans bxac10;have q11:=(hbb.cell (p:=⟨w.heap.size,11,none⟩) hka).trans bxac11;have q12:=(hbb.cell (p:=⟨w.heap.size,12,none⟩) hka).trans bxac12;have q13:=(hbb.cell (p:=⟨w4.heap.size,0,none⟩) hkx).trans bxxc0;have q14:=(hbb.cell (p:=⟨w4.heap.size,1,none⟩) hkx).trans bxxc1;have q15:=(hbb.cell (p:=⟨w4.heap.size,2,none⟩) hkx).trans bxxc2;have q16:=(hbb.cell (p:=⟨w4.heap.size,3,none⟩) hkx).trans bxxc3;have q17:=(hbb.cell (p:=⟨w4.heap.size,4,none⟩) hkx).trans bxxc4;have q18:=(hbb.cell (p:=⟨w4.heap.size,5,none⟩) hkx).trans bxxc5;have q19:=(hbb.cell (p:=⟨w4.heap.size,6,none⟩) hkx).trans bxxc6;have q20:=(hbb.cell (p:=⟨w4.heap.size,7,none⟩) hkx).trans bxxc7;have q21:=(hbb.cell (p:=⟨w4.heap.size,8,none⟩) hkx).trans bxxc8;have q22:=(hbb.cell (p:=⟨w4.heap.size,9,none⟩) hkx).trans bxxc9;have q23:=(hbb.cell (p:=⟨w4.heap.size,10,none⟩) hkx).trans bxxc10;have q24:=(hbb.cell (p:=⟨w4.heap.size,11,none⟩) hkx).trans bxxc11;have q25:=(hbb.cell (p:=⟨w4.heap.size,12,none⟩) hkx).trans bxxc12))
  clear p0 q0 d_0 p1 q1 d_1 p2 q2 d_2 p3 q3 d_3 p4 q4 d_4 p5 q5 d_5 p6 q6 d_6 p7 q7 d_7 p8 q8 d_8 p9 q9 d_9 p10 q10 d_10 p11 q11 d_11 p12 q12 d_12 p13 q13 d_13 p14 q14 d_14 p15 q15 d_15 p16 q16 d_16 p17 q17 d_17 p18 q18 d_18 p19 q19 d_19 p20 q20 d_20 p21 q21 d_21 p22 q22 d_22 p23 q23 d_23 p24 q24 d_24 p25 q25 d_25 hka hkx ina hba
  clear bxac0 bxac1 bxac2 bxac3 bxac4 bxac5 bxac6 bxac7 bxac8 bxac9 bxac10 bxac11 bxac12
  clear bxxc0 bxxc1 bxxc2 bxxc3 bxxc4 bxxc5 bxxc6 bxxc7 bxxc8 bxxc9 bxxc10 bxxc11 bxxc12
  have bxa:=Hbxa.out
  clear Hbxa
  have inx:=Hinx.out
  clear Hinx
  have bxx:=Hbxx.out
  clear Hbxx
  have B_w6:=HB_.out
  clear HB_
  replace bxa:=(hbb.block _ (by omega)).trans bxa
  replace inx:=inx.step (Stp.of (lo:=0) (hi:=0) hbb) (.inl (Nat.zero_le _))
  replace bxx:=(hbb.block _ (by omega)).trans bxx
  have B_w8:Below w.heap.size w w8:=B_w6.trans (hbb.mono B_w6.size)
  have hs_w8:w6.heap.size≤w8.heap.size:=hbb.size
  clear hbb B_w6
  have Hbxa:=hide bxa
  clear bxa
  have Hinx:=hide inx
  clear inx
  have Hbxx:=hide bxx
  clear bxx
  have HB_:=hide B_w8
  clear B_w8
  go_wp2
  go_ret
  exact ⟨rfl,HB_.out⟩
end Go.Proofs.YtgplppfbinfelaaGreat
