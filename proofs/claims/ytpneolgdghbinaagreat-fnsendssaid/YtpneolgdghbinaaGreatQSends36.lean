/- Several texts in one: SDropI, SDropS, SExp2. -/
import Derived.Deep.LoopGhost
import Derived.Test.YtpneolgdghbinaaGreatQSends30
namespace Go.Proofs.YtpneolgdghbinaaGreat
open Go.ChangeShapes Go.WideShapes Go.ChangeAt Go.RowKit Go.Joins
set_option linter.unusedVariables false
set_option linter.unusedSimpArgs false
set_option maxRecDepth 100000
set_option maxHeartbeats 40000000
theorem Qd0 {e:TypeId} {w:World} {base g n c:Nat} {m:List Sl} (h:w.ownsRow base e 5 (.slice (some ⟨g,0,none⟩) n c) n (m.flatMap Q0h.cs)) (hn:n=m.length) (i:Nat) (hi:i < n):
  w.cell? ⟨g,i * 5,none⟩=some (.bool (m.getD i sl0).u)∧w.cell? ⟨g,i * 5+1,none⟩=some (.int .i64 (m.getD i sl0).a)∧w.cell? ⟨g,i * 5+2,none⟩=some (.int .i64 (m.getD i sl0).p)∧w.cell? ⟨g,i * 5+3,none⟩=some (.int .i64 (m.getD i sl0).v)∧w.cell? ⟨g,i * 5+4,none⟩=some (.int .i64 (m.getD i sl0).t):=by
 have h1:=Q1M h hn
 have h2:=RdL.slot (C:=w.heap.size) h1 i (by omega)
 simpa only [Nat.zero_add] using h2
theorem Q6A (b off c:Nat) (l:List Sl) (a p:Int) (w:World) (hn:0 < l.length) (h16:l.length≤16) (hf:Q0f a p=true) (hok:Q4w l) (hbl:b < w.heap.size) (hc:∀i,i < l.length→∀j,j < Q0h.k→w.cell? ⟨b,off+i * Q0h.k+j,none⟩=(Q0h.cs (l.getD i Q0h.d))[j]?):
  Calls Tryz.prog 168 #[tab (.slice (some ⟨b,off,none⟩) l.length c),Q9T a p] w fun e w'=> ∃b' off' c',e=.returned (.tuple #[tab (.slice (some ⟨b',off',none⟩) l.length c'),.bool (Q1o l a p).2])∧b' < w'.heap.size∧(∀i,i < (Q3D l a p).length→∀j,j < Q0h.k→w'.cell? ⟨b',off'+i * Q0h.k+j,none⟩=(Q0h.cs ((Q3D l a p).getD i Q0h.d))[j]?)∧Below w.heap.size w w'∧(b'=b∨w.heap.size≤b'):=by
 have HC:=Q02 hc
 have hl:l.length≤1048576:=by omega
 clear hc;obtain ⟨W0,hW0⟩:∃W,(((w.alloc (.cells #[.slice (some ⟨b,off,none⟩) l.length c] 32)).alloc (.cells #[.int .i64 a,.int .i64 p] 36)).alloc (.cells #[.slice none 0 0] 32))=W:=⟨_,rfl⟩
 have hb_W0:Below w.heap.size w W0:=by rw [←hW0];exact ((((Below.refl _ _).alloc (Kaq _) _).alloc (by simp <;> omega) _).alloc (by simp <;> omega) _)
 have HB:=Q02 hb_W0;clear hb_W0
 have zct:w.heap.size < W0.heap.size:=by rw [←hW0];simp <;> omega
 have ct0:W0.cell? ⟨w.heap.size,0,none⟩=some (.slice (some ⟨b,off,none⟩) l.length c):=by rw [←hW0];simp [go_sem]
 have zcf:w.heap.size+1 < W0.heap.size:=by rw [←hW0];simp <;> omega
 obtain ⟨cf0,cf1⟩:=alc2v1v3 hW0
 have zcr:w.heap.size+1+1 < W0.heap.size:=by rw [←hW0];simp
 have cr0:W0.cell? ⟨w.heap.size+1+1,0,none⟩=some (.slice none 0 0):=by rw [←hW0];simp [go_sem]
 have fcr0:W0.frozen? ⟨w.heap.size+1+1,0,none⟩=false:=by rw [←hW0];simp [go_sem]
 have hat:=Qb5 (some ⟨b,off,none⟩) c l a p W0 (.inr ⟨b,off,rfl,Kbq hbl HB.out.size,(fun i hi j hj=> (HB.out.cell (p:=⟨b,off+i * Q0h.k+j,none⟩) hbl).trans (HC.out i hi j hj))⟩) hn hl hf
 have HZ:=Q02 zcr
 rcases Q23 l hn a p with hE|⟨i0,hi0,⟨hE,_⟩|⟨hE,_⟩⟩
 ·skip
  have HP:=Q02 (Q6u (l:=l) (a:=a) (p:=p) (by rw [hE]))
  have HD:=Q02 (show (Q1o l a p).2=false by rw [hE])
  rw [hE] at hat
  clear hE
  go_enter Tryz.func168,Tryz.ntmps168
  go_wp2_with fail
  refine (hat).mono ?_
  rintro e v1 ⟨rfl,hb⟩
  replace ct0:v1.cell? ⟨w.heap.size,0,none⟩=some (.slice (some ⟨b,off,none⟩) l.length c):=(hb.cell (p:=⟨w.heap.size,0,none⟩) zct).trans ct0;replace zct:w.heap.size < v1.heap.size:=Kbq zct hb.size;replace cf0:v1.cell? ⟨w.heap.size+1,0,none⟩=some (.int .i64 a):=(hb.cell (p:=⟨w.heap.size+1,0,none⟩) zcf).trans cf0;replace cf1:v1.cell? ⟨w.heap.size+1,1,none⟩=some (.int .i64 p):=(hb.cell (p:=⟨w.heap.size+1,1,none⟩) zcf).trans cf1;replace zcf:w.heap.size+1 < v1.heap.size:=Kbq zcf hb.size
  replace cr0:v1.cell? ⟨w.heap.size+1+1,0,none⟩=some (.slice none 0 0):=(hb.cell (p:=⟨w.heap.size+1+1,0,none⟩) zcr).trans cr0;replace fcr0:v1.frozen? ⟨w.heap.size+1+1,0,none⟩=false:=(hb.frozen (p:=⟨w.heap.size+1+1,0,none⟩) zcr).trans fcr0;replace zcr:w.heap.size+1+1 < v1.heap.size:=Kbq zcr hb.size;replace HB:=Q02 (HB.out.trans (hb.mono HB.out.size));clear hb;clear hat
  go_wp2
  refine bodyPost_ret (v:=.tuple #[tab (.slice (some ⟨b,off,none⟩) l.length c),.bool false]) (by simp [results,Tryz.results168,go_sem,cr0]) rfl ⟨b,off,c,by rw [HD.out], ?_, ?_, ?_,.inl rfl⟩
  ·have:=HB.out.size;simp;omega
  ·rw [HP.out]
   intro i hi j hj
   have hB2:=HB.out.setCell (p:=⟨w.heap.size+1+1,0,none⟩) (by simp <;> omega) (.slice (some ⟨b,off,none⟩) l.length c)
   exact (hB2.cell (p:=⟨b,off+i * Q0h.k+j,none⟩) hbl).trans (HC.out i hi j hj)
  ·exact HB.out.setCell (p:=⟨w.heap.size+1+1,0,none⟩) (by simp <;> omega) _
 ·skip
  have HP:=Q02 (Q6u (l:=l) (a:=a) (p:=p) (by rw [hE]))
  have HD:=Q02 (show (Q1o l a p).2=false by rw [hE])
  rw [hE] at hat
  clear hE
  go_enter Tryz.func168,Tryz.ntmps168
  go_wp2_with fail
  refine (hat).mono ?_
  rintro e v1 ⟨rfl,hb⟩
  replace ct0:v1.cell? ⟨w.heap.size,0,none⟩=some (.slice (some ⟨b,off,none⟩) l.length c):=(hb.cell (p:=⟨w.heap.size,0,none⟩) zct).trans ct0;replace zct:w.heap.size < v1.heap.size:=Kbq zct hb.size;replace cf0:v1.cell? ⟨w.heap.size+1,0,none⟩=some (.int .i64 a):=(hb.cell (p:=⟨w.heap.size+1,0,none⟩) zcf).trans cf0;replace cf1:v1.cell? ⟨w.heap.size+1,1,none⟩=some (.int .i64 p):=(hb.cell (p:=⟨w.heap.size+1,1,none⟩) zcf).trans cf1;replace zcf:w.heap.size+1 < v1.heap.size:=Kbq zcf hb.size
  replace cr0:v1.cell? ⟨w.heap.size+1+1,0,none⟩=some (.slice none 0 0):=(hb.cell (p:=⟨w.heap.size+1+1,0,none⟩) zcr).trans cr0;replace fcr0:v1.frozen? ⟨w.heap.size+1+1,0,none⟩=false:=(hb.frozen (p:=⟨w.heap.size+1+1,0,none⟩) zcr).trans fcr0;replace zcr:w.heap.size+1+1 < v1.heap.size:=Kbq zcr hb.size;replace HB:=Q02 (HB.out.trans (hb.mono HB.out.size));clear hb;clear hat
  go_wp2
  refine bodyPost_ret (v:=.tuple #[tab (.slice (some ⟨b,off,none⟩) l.length c),.bool false]) (by simp [results,Tryz.results168,go_sem,cr0]) rfl ⟨b,off,c,by rw [HD.out], ?_, ?_, ?_,.inl rfl⟩
  ·have:=HB.out.size;simp;omega
  ·rw [HP.out]
   intro i hi j hj
   have hB2:=HB.out.setCell (p:=⟨w.heap.size+1+1,0,none⟩) (by simp <;> omega) (.slice (some ⟨b,off,none⟩) l.length c)
   exact (hB2.cell (p:=⟨b,off+i * Q0h.k+j,none⟩) hbl).trans (HC.out i hi j hj)
  ·exact HB.out.setCell (p:=⟨w.heap.size+1+1,0,none⟩) (by simp <;> omega) _
 ·skip
  have HP:=Q02 (Q9h hE)
  have HD:=Q02 (show (Q1o l a p).2=true by rw [hE])
  rw [hE] at hat
  clear hE;have HInv0:=Q02 (DropInv.start (l:=l) (i:=i0) h16 hi0 hok)
  have i1:(i0:Int) < (l.length:Int):=by omega
  go_enter Tryz.func168,Tryz.ntmps168
  go_wp2_with fail
  refine (hat).mono ?_
  rintro e v1 ⟨rfl,hb⟩
  replace ct0:v1.cell? ⟨w.heap.size,0,none⟩=some (.slice (some ⟨b,off,none⟩) l.length c):=(hb.cell (p:=⟨w.heap.size,0,none⟩) zct).trans ct0;replace zct:w.heap.size < v1.heap.size:=Kbq zct hb.size;replace cf0:v1.cell? ⟨w.heap.size+1,0,none⟩=some (.int .i64 a):=(hb.cell (p:=⟨w.heap.size+1,0,none⟩) zcf).trans cf0;replace cf1:v1.cell? ⟨w.heap.size+1,1,none⟩=some (.int .i64 p):=(hb.cell (p:=⟨w.heap.size+1,1,none⟩) zcf).trans cf1;replace zcf:w.heap.size+1 < v1.heap.size:=Kbq zcf hb.size
  replace cr0:v1.cell? ⟨w.heap.size+1+1,0,none⟩=some (.slice none 0 0):=(hb.cell (p:=⟨w.heap.size+1+1,0,none⟩) zcr).trans cr0;replace fcr0:v1.frozen? ⟨w.heap.size+1+1,0,none⟩=false:=(hb.frozen (p:=⟨w.heap.size+1+1,0,none⟩) zcr).trans fcr0;replace zcr:w.heap.size+1+1 < v1.heap.size:=Kbq zcr hb.size;replace HB:=Q02 (HB.out.trans (hb.mono HB.out.size));clear hb
  go_wp2_with fail
  refine (Q4W b off c l v1 (Kbq hbl HB.out.size) (fun i hi j hj=> (HB.out.cell (p:=⟨b,off+i * Q0h.k+j,none⟩) hbl).trans (HC.out i hi j hj)) hl).mono ?_
  rintro e v2 ⟨o2,c2,rfl,hown,hb⟩
  have HV1:=Q02 zcr
  obtain ⟨g,c3,hve⟩:∃g c3,Value.slice o2 l.length c2=.slice (some ⟨g,0,none⟩) l.length c3:=by
   rcases hown.2 with ⟨_,h0⟩|⟨g,c3,_,h0,_⟩
   ·exact absurd h0 (by omega)
   ·exact ⟨g,c3,h0⟩
  injection hve with hv1 hv2 hv3
  subst hv1 hv3;have HO:=Q02 hown;clear hown;replace ct0:v2.cell? ⟨w.heap.size,0,none⟩=some (.slice (some ⟨b,off,none⟩) l.length c):=(hb.cell (p:=⟨w.heap.size,0,none⟩) zct).trans ct0;replace zct:w.heap.size < v2.heap.size:=Kbq zct hb.size;replace cf0:v2.cell? ⟨w.heap.size+1,0,none⟩=some (.int .i64 a):=(hb.cell (p:=⟨w.heap.size+1,0,none⟩) zcf).trans cf0;replace cf1:v2.cell? ⟨w.heap.size+1,1,none⟩=some (.int .i64 p):=(hb.cell (p:=⟨w.heap.size+1,1,none⟩) zcf).trans cf1;replace zcf:w.heap.size+1 < v2.heap.size:=Kbq zcf hb.size
  replace cr0:v2.cell? ⟨w.heap.size+1+1,0,none⟩=some (.slice none 0 0):=(hb.cell (p:=⟨w.heap.size+1+1,0,none⟩) zcr).trans cr0;replace fcr0:v2.frozen? ⟨w.heap.size+1+1,0,none⟩=false:=(hb.frozen (p:=⟨w.heap.size+1+1,0,none⟩) zcr).trans fcr0;replace zcr:w.heap.size+1+1 < v2.heap.size:=Kbq zcr hb.size;replace HB:=Q02 (HB.out.trans (hb.mono HB.out.size));clear hb;have HOv:=HO;obtain ⟨W2,hW2⟩:∃W,(v2.alloc (.cells #[.slice (some ⟨g,0,none⟩) l.length c2] 32))=W:=⟨_,rfl⟩
  have hb_W2:Below v2.heap.size v2 W2:=by rw [←hW2];exact ((Below.refl _ _).alloc (Kaq _) _)
  replace ct0:W2.cell? ⟨w.heap.size,0,none⟩=some (.slice (some ⟨b,off,none⟩) l.length c):=(hb_W2.cell (p:=⟨w.heap.size,0,none⟩) zct).trans ct0;replace zct:w.heap.size < W2.heap.size:=Kbq zct hb_W2.size;replace cf0:W2.cell? ⟨w.heap.size+1,0,none⟩=some (.int .i64 a):=(hb_W2.cell (p:=⟨w.heap.size+1,0,none⟩) zcf).trans cf0;replace cf1:W2.cell? ⟨w.heap.size+1,1,none⟩=some (.int .i64 p):=(hb_W2.cell (p:=⟨w.heap.size+1,1,none⟩) zcf).trans cf1;replace zcf:w.heap.size+1 < W2.heap.size:=Kbq zcf hb_W2.size
  replace cr0:W2.cell? ⟨w.heap.size+1+1,0,none⟩=some (.slice none 0 0):=(hb_W2.cell (p:=⟨w.heap.size+1+1,0,none⟩) zcr).trans cr0;replace fcr0:W2.frozen? ⟨w.heap.size+1+1,0,none⟩=false:=(hb_W2.frozen (p:=⟨w.heap.size+1+1,0,none⟩) zcr).trans fcr0;replace zcr:w.heap.size+1+1 < W2.heap.size:=Kbq zcr hb_W2.size;replace HO:=Q02 (Q03 HO.out hb_W2);replace HB:=Q02 (HB.out.trans (hb_W2.mono HB.out.size));clear hb_W2
  have zco:v2.heap.size < W2.heap.size:=by rw [←hW2];simp
  have co0:W2.cell? ⟨v2.heap.size,0,none⟩=some (.slice (some ⟨g,0,none⟩) l.length c2):=by rw [←hW2];simp [go_sem]
  have hgb:=(HOv.out.lt g rfl);have hgv:v1.heap.size≤g:=hgb.1;have hg2:g+1≤v2.heap.size:=hgb.2;have hz1:=HV1.out;have hzo2:=zco;have ho:W2.ownsRow v1.heap.size 101 5 (.slice (some ⟨g,0,none⟩) l.length c2) l.length (l.flatMap Q0h.cs):=HO.out
  have hln:(l.flatMap Q0h.cs).length=l.length * 5:=by rw [Q0s];rfl
  obtain ⟨u0,hu0⟩:∃u,W2.cell? ⟨g,i0 * 5,none⟩=some u:=⟨_,(ho.cellAt (i0 * 5) (by omega)).trans (List.getElem?_eq_getElem (by omega))⟩
  have fu0:=ho.frozenAt (i0 * 5)
  obtain ⟨u1,hu1⟩:∃u,W2.cell? ⟨g,i0 * 5+1,none⟩=some u:=⟨_,(ho.cellAt (i0 * 5+1) (by omega)).trans (List.getElem?_eq_getElem (by omega))⟩
  have fu1:=ho.frozenAt (i0 * 5+1)
  obtain ⟨u2,hu2⟩:∃u,W2.cell? ⟨g,i0 * 5+2,none⟩=some u:=⟨_,(ho.cellAt (i0 * 5+2) (by omega)).trans (List.getElem?_eq_getElem (by omega))⟩
  have fu2:=ho.frozenAt (i0 * 5+2)
  obtain ⟨u3,hu3⟩:∃u,W2.cell? ⟨g,i0 * 5+3,none⟩=some u:=⟨_,(ho.cellAt (i0 * 5+3) (by omega)).trans (List.getElem?_eq_getElem (by omega))⟩
  have fu3:=ho.frozenAt (i0 * 5+3)
  obtain ⟨u4,hu4⟩:∃u,W2.cell? ⟨g,i0 * 5+4,none⟩=some u:=⟨_,(ho.cellAt (i0 * 5+4) (by omega)).trans (List.getElem?_eq_getElem (by omega))⟩
  have fu4:=ho.frozenAt (i0 * 5+4);obtain ⟨W3,hW3⟩:∃W,(((((W2.setCell ⟨g,i0 * 5,none⟩ (.bool false)).setCell ⟨g,i0 * 5+1,none⟩ (.int .i64 0)).setCell ⟨g,i0 * 5+2,none⟩ (.int .i64 0)).setCell ⟨g,i0 * 5+3,none⟩ (.int .i64 0)).setCell ⟨g,i0 * 5+4,none⟩ (.int .i64 0))=W:=⟨_,rfl⟩
  have HO3:Hid (W3.ownsRow v1.heap.size 101 5 (.slice (some ⟨g,0,none⟩) l.length c2) l.length ((l.set i0 sl0).flatMap Q0h.cs)):=by rw [←hW3];exact (Q5x (k:=i0) sl0 (Kaq g) ho (Below.refl g W2)).1
  have HSt3:Hid (Stp g (g+1) W2 W3):=by rw [←hW3];exact Q6n W2 g i0 sl0
  have co3:=HSt3.out.cell co0 zco (.inr hg2);have hm0:=Q5f l.length i0
  have hne0:((l.length:Int)==0)=false:=beq_eq_false_iff_ne.2 (by omega)
  clear ho hln hat
  go_wp2
  go_loopg [6,10] (QeB (l.set i0 sl0) i0 ((i0+1) % l.length)) (fun gk iv kv wr=> ∃(m:List Sl) (i k:Nat),iv=.int .i64 i∧kv=.int .i64 k∧Hid (DropInv l.length (Q4I l i0) gk m i k)∧Hid (wr.ownsRow v1.heap.size 101 5 (.slice (some ⟨g,0,none⟩) l.length c2) l.length (m.flatMap Q0h.cs))∧Hid (Stp g (g+1) W2 wr))
  case atStart=> exact ⟨_,i0,(i0+1) % l.length,rfl,by simp,HInv0,HO3,HSt3⟩
  case round=>
   clear co3 HO3 HSt3 hW3 HInv0 hu0 fu0 hu1 fu1 hu2 fu2 hu3 fu3 hu4 fu4 hm0;obtain ⟨m,i,k,rfl,rfl,HI,HOr,HSt⟩:=hrel;have hml:=Q02 HI.out.len;have hik:=HI.out.hi;have hkk:=HI.out.hk;have ho:wr.ownsRow v1.heap.size 101 5 (.slice (some ⟨g,0,none⟩) l.length c2) l.length (m.flatMap Q0h.cs):=HOr.out;have hszr:W2.heap.size≤wr.heap.size:=HSt.out.size;have cor:=HSt.out.cell co0 zco (.inr hg2)
   have crr:=HSt.out.cell cr0 zcr (.inl (show w.heap.size+1+1 < g by omega))
   have fcrr:=HSt.out.frozen fcr0 zcr (.inl (show w.heap.size+1+1 < g by omega))
   have hk1:(k:Int) < (l.length:Int):=by omega
   have hi1:(i:Int) < (l.length:Int):=by omega
   obtain ⟨s,hxy⟩:∃s,m.getD k sl0=s:=⟨_,rfl⟩;have hrk:=Qd0 ho hml.out.symm k hkk
   rw [hxy] at hrk
   have e0:=hrk.1;have e1:=hrk.2.1;have e2:=hrk.2.2.1;have e3:=hrk.2.2.2.1;have e4:=hrk.2.2.2.2;have HX:=Q02 hxy;clear hrk hxy;have hsz3:w.heap.size+1+1 < v1.heap.size:=hz1
   by_cases hki:k=i
   ·have HDn:=Q02 (HI.out.done (by rw [hki];exact HI.out.free))
    subst hki;clear ho
    go_wp2
    refine bodyPost_ret (v:=.tuple #[tab (.slice (some ⟨g,0,none⟩) l.length c2),.bool true]) (by simp [results,Tryz.results168,go_sem,crr]) rfl ⟨g,0,c2,by rw [HD.out], ?_, ?_, ?_,.inr (by omega)⟩
    ·have h:=(HOr.out.lt g rfl).2;simpa using h
    ·rw [HP.out,←HDn.out]
     have h:=ownsRow_setCell_below HOr.out (a:=⟨w.heap.size+1+1,0,none⟩) hsz3 (.slice (some ⟨g,0,none⟩) l.length c2)
     exact Q1M h hml.out.symm
    ·exact (HB.out.trans (HSt.out.below (by omega) (by omega))).setCell (p:=⟨w.heap.size+1+1,0,none⟩) (by simp <;> omega) _
   ·have hki2:((k:Int)==(i:Int))=false:=beq_eq_false_iff_ne.2 (by omega)
    have hki3:¬(k:Int)=(i:Int):=by omega
    obtain ⟨su,sa,sp,sv,st⟩:=s
    simp only at e0 e1 e2 e3 e4
    cases su with
    |false=>
     have HDn:=Q02 (HI.out.done (by rw [HX.out]))
     clear ho
     go_wp2
     refine bodyPost_ret (v:=.tuple #[tab (.slice (some ⟨g,0,none⟩) l.length c2),.bool true]) (by simp [results,Tryz.results168,go_sem,crr]) rfl ⟨g,0,c2,by rw [HD.out], ?_, ?_, ?_,.inr (by omega)⟩
     ·have h:=(HOr.out.lt g rfl).2;simpa using h
     ·rw [HP.out,←HDn.out]
      have h:=ownsRow_setCell_below HOr.out (a:=⟨w.heap.size+1+1,0,none⟩) hsz3 (.slice (some ⟨g,0,none⟩) l.length c2)
      exact Q1M h hml.out.symm
     ·exact (HB.out.trans (HSt.out.below (by omega) (by omega))).setCell (p:=⟨w.heap.size+1+1,0,none⟩) (by simp <;> omega) _
    |true=>
     have hfo:Q0f sa sp=true:=by have h:=HI.out.ok k (by have:=hml.out;omega) (by rw [HX.out]);rw [HX.out] at h;exact h
     have hhl:=Q1E hn sa sp
     have HMv:=Q02 (show Q69 l.length m i k=decide (Q1A l.length i k≤Q1A l.length (Q11 l.length sa sp) k) by unfold Q69;rw [HX.out])
     have HOx:=Q02 ho;clear ho
     go_wp2_with fail
     refine (Q7M l.length sa sp wr hn hl hfo).mono ?_
     rintro e W6 ⟨rfl,hb6⟩
     generalize Q11 l.length sa sp=hm at *
     have hm1:(hm:Int) < (l.length:Int):=by omega
     have hf1:=Qbf hhl hkk;have hf2:=Qbf hik hkk;have hnx:=Q5f l.length k;have ho6:W6.ownsRow v1.heap.size 101 5 (.slice (some ⟨g,0,none⟩) l.length c2) l.length (m.flatMap Q0h.cs):=Q03 HOx.out hb6
     have zcor:v2.heap.size < wr.heap.size:=by omega
     have co6:W6.cell? ⟨v2.heap.size,0,none⟩=some (.slice (some ⟨g,0,none⟩) l.length c2):=(hb6.cell (p:=⟨v2.heap.size,0,none⟩) zcor).trans cor;have HSt6:=Q02 (HSt.out.trans (Stp.of hb6));clear hb6 cor crr fcrr;generalize Q1A l.length hm k=d1 at *;generalize Q1A l.length i k=d2 at *
     by_cases hmv:(d2:Int)≤(d1:Int)
     ·skip
      have HNx:=Q02 (HI.out.move (by rw [HX.out]) (by rw [HMv.out];exact decide_eq_true (by omega)))
      rw [HX.out] at HNx
      have hln:(m.flatMap Q0h.cs).length=l.length * 5:=by rw [Q0s,hml.out];rfl
      have hrk:=Qd0 ho6 hml.out.symm k hkk
      rw [HX.out] at hrk
      have g0:=hrk.1;have g1:=hrk.2.1;have g2:=hrk.2.2.1;have g3:=hrk.2.2.2.1;have g4:=hrk.2.2.2.2
      simp only at g0 g1 g2 g3 g4
      clear hrk e0 e1 e2 e3 e4
      obtain ⟨u0,hu0⟩:∃u,W6.cell? ⟨g,i * 5,none⟩=some u:=⟨_,(ho6.cellAt (i * 5) (by omega)).trans (List.getElem?_eq_getElem (by omega))⟩
      have fu0:=ho6.frozenAt (i * 5)
      obtain ⟨u1,hu1⟩:∃u,W6.cell? ⟨g,i * 5+1,none⟩=some u:=⟨_,(ho6.cellAt (i * 5+1) (by omega)).trans (List.getElem?_eq_getElem (by omega))⟩
      have fu1:=ho6.frozenAt (i * 5+1)
      obtain ⟨u2,hu2⟩:∃u,W6.cell? ⟨g,i * 5+2,none⟩=some u:=⟨_,(ho6.cellAt (i * 5+2) (by omega)).trans (List.getElem?_eq_getElem (by omega))⟩
      have fu2:=ho6.frozenAt (i * 5+2)
      obtain ⟨u3,hu3⟩:∃u,W6.cell? ⟨g,i * 5+3,none⟩=some u:=⟨_,(ho6.cellAt (i * 5+3) (by omega)).trans (List.getElem?_eq_getElem (by omega))⟩
      have fu3:=ho6.frozenAt (i * 5+3)
      obtain ⟨u4,hu4⟩:∃u,W6.cell? ⟨g,i * 5+4,none⟩=some u:=⟨_,(ho6.cellAt (i * 5+4) (by omega)).trans (List.getElem?_eq_getElem (by omega))⟩
      have fu4:=ho6.frozenAt (i * 5+4);obtain ⟨W4,hW4⟩:∃W,(((((W6.setCell ⟨g,i * 5,none⟩ (.bool true)).setCell ⟨g,i * 5+1,none⟩ (.int .i64 sa)).setCell ⟨g,i * 5+2,none⟩ (.int .i64 sp)).setCell ⟨g,i * 5+3,none⟩ (.int .i64 sv)).setCell ⟨g,i * 5+4,none⟩ (.int .i64 st))=W:=⟨_,rfl⟩
      have ho4:W4.ownsRow v1.heap.size 101 5 (.slice (some ⟨g,0,none⟩) l.length c2) l.length ((m.set i ⟨true,sa,sp,sv,st⟩).flatMap Q0h.cs):=by rw [←hW4];exact (Q5x (k:=i) ⟨true,sa,sp,sv,st⟩ (Kaq g) ho6 (Below.refl g W6)).1
      have HSt4:Hid (Stp g (g+1) W6 W4):=by rw [←hW4];exact Q6n W6 g i ⟨true,sa,sp,sv,st⟩
      have hln4:((m.set i ⟨true,sa,sp,sv,st⟩).flatMap Q0h.cs).length=l.length * 5:=by rw [Q0s,List.length_set,hml.out];rfl
      have zco6:v2.heap.size < W6.heap.size:=Kbq hzo2 HSt6.out.size;have co4:=HSt4.out.cell co6 zco6 (.inr hg2)
      obtain ⟨y0,hy0⟩:∃u,W4.cell? ⟨g,k * 5,none⟩=some u:=⟨_,(ho4.cellAt (k * 5) (by omega)).trans (List.getElem?_eq_getElem (by omega))⟩
      have fy0:=ho4.frozenAt (k * 5)
      obtain ⟨y1,hy1⟩:∃u,W4.cell? ⟨g,k * 5+1,none⟩=some u:=⟨_,(ho4.cellAt (k * 5+1) (by omega)).trans (List.getElem?_eq_getElem (by omega))⟩
      have fy1:=ho4.frozenAt (k * 5+1)
      obtain ⟨y2,hy2⟩:∃u,W4.cell? ⟨g,k * 5+2,none⟩=some u:=⟨_,(ho4.cellAt (k * 5+2) (by omega)).trans (List.getElem?_eq_getElem (by omega))⟩
      have fy2:=ho4.frozenAt (k * 5+2)
      obtain ⟨y3,hy3⟩:∃u,W4.cell? ⟨g,k * 5+3,none⟩=some u:=⟨_,(ho4.cellAt (k * 5+3) (by omega)).trans (List.getElem?_eq_getElem (by omega))⟩
      have fy3:=ho4.frozenAt (k * 5+3)
      obtain ⟨y4,hy4⟩:∃u,W4.cell? ⟨g,k * 5+4,none⟩=some u:=⟨_,(ho4.cellAt (k * 5+4) (by omega)).trans (List.getElem?_eq_getElem (by omega))⟩
      have fy4:=ho4.frozenAt (k * 5+4);obtain ⟨W5,hW5⟩:∃W,(((((W4.setCell ⟨g,k * 5,none⟩ (.bool false)).setCell ⟨g,k * 5+1,none⟩ (.int .i64 0)).setCell ⟨g,k * 5+2,none⟩ (.int .i64 0)).setCell ⟨g,k * 5+3,none⟩ (.int .i64 0)).setCell ⟨g,k * 5+4,none⟩ (.int .i64 0))=W:=⟨_,rfl⟩
      have HO5:Hid (W5.ownsRow v1.heap.size 101 5 (.slice (some ⟨g,0,none⟩) l.length c2) l.length (((m.set i ⟨true,sa,sp,sv,st⟩).set k sl0).flatMap Q0h.cs)):=by rw [←hW5];exact (Q5x (k:=k) sl0 (Kaq g) ho4 (Below.refl g W4)).1
      have HSt5:Hid (Stp g (g+1) W4 W5):=by rw [←hW5];exact Q6n W4 g k sl0
      have HStA:=Q02 (HSt6.out.trans (HSt4.out.trans HSt5.out));clear ho6 ho4 hln hln4
      go_wp2
      go_region
      go_wp2
      go_region
      go_wp2
      go_roundg (gk - 1)
      case measure=> have:=HNx.out.1;omega
      case rel=> exact ⟨_,k,(k+1) % l.length,rfl,by simp,HNx.out.2,HO5,HStA.out.drew.drew⟩
     ·skip
      have HNx:=Q02 (HI.out.stay (by rw [HX.out]) (by rw [HMv.out];exact decide_eq_false (by omega)))
      have hmv':decide (d2≤d1)=false:=decide_eq_false (by omega)
      have hmv2:decide ((d2:Int)≤(d1:Int))=false:=decide_eq_false hmv;have HO6:=Q02 ho6;clear ho6
      go_wp2
      go_region
      go_wp2
      go_roundg (gk - 1)
      case measure=> have:=HNx.out.1;omega
      case rel=> exact ⟨m,i,(k+1) % l.length,rfl,by simp,HNx.out.2,HO6,HSt6.out.drew⟩
theorem Qc0 {W:World} {B b off n c:Nat} {o:Option Addr} {T:TypeId} {m:List Sl} (hm:0 < m.length) (hB:W.heap[B]? =some (.cells #[.slice o n c] T (0,0))) (hr:(∀i,i < m.length→∀j,j < Q0h.k→W.cell? ⟨b,off+i * Q0h.k+j,none⟩=(Q0h.cs (m.getD i Q0h.d))[j]?)):b≠B:=by
 rintro rfl
 have h:W.cell? ⟨b,off+0 * Q0h.k+0,none⟩=some (.bool (m.getD 0 Q0h.d).u):=hr 0 hm 0 (by decide)
 simp only [World.cell?,hB,Nat.zero_mul,Nat.add_zero] at h
 rcases off with _|off <;> simp at h
end Go.Proofs.YtpneolgdghbinaaGreat
