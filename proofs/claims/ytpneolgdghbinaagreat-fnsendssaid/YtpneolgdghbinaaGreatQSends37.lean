/- Several texts in one: STickS, SLearnS. -/
import Derived.Test.YtpneolgdghbinaaGreatQSends35
import Derived.Test.YtpneolgdghbinaaGreatQSends36
namespace Go.Proofs.YtpneolgdghbinaaGreat
open Go.ChangeShapes Go.WideShapes Go.ChangeAt Go.RowKit Go.Joins
set_option linter.unusedVariables false
set_option linter.unusedSimpArgs false
set_option maxRecDepth 100000
set_option maxHeartbeats 40000000
def Qi9 (w:World) (v:Value) (m:Bm):Prop:=∃o c ob cb oR cR bt ft ct,v=Q1d m.j.key (.slice o m.j.l.length c) m.j.safe m.p.key (.slice ob m.p.l.length cb) (.slice oR m.p.ring.length cR) (.slice (some ⟨bt,ft,none⟩) m.t.length ct)∧RdC w.heap.size w o m.j.l∧(o=none→c=0)∧RdK w.heap.size w ob m.p.l∧(ob=none→cb=0)∧RcR 0 w.heap.size w (.slice oR m.p.ring.length cR) m.p.ring∧bt < w.heap.size∧(∀i,i < m.t.length→∀j,j < Q0h.k→w.cell? ⟨bt,ft+i * Q0h.k+j,none⟩=(Q0h.cs (m.t.getD i Q0h.d))[j]?)
theorem Q39 {lo hi b j:Nat} {w w':World} (s:Stp lo hi w w') (hb:b < w.heap.size) (hd:b < lo∨hi≤b):w'.cell? ⟨b,j,none⟩=w.cell? ⟨b,j,none⟩:=by
 simp only [World.cell?,s.block b hb hd]
theorem QeQ {v:Value} {m:Bm} {w:World} (h:Qi9 w v m) (hf:fitBm m):
  Calls Tryz.prog 131 #[v] w fun e w'=> ∃v',e=.returned v'∧OwBm w.heap.size w'.heap.size w' v' m∧Below w.heap.size w w':=by
 obtain ⟨o,c,ob,cb,oR,cR,bt,ft,ct,e,h1,h2,h3,h4,h5,h6,h7⟩:=h;subst e
 exact QfU m.j.key o _ c m.j.safe m.p.key ob _ cb oR _ cR bt ft _ ct m.j.l m.p.l m.p.ring m.t w rfl rfl rfl rfl h1 h2 h3 h4 h5 h6 h7 hf
def Q4q (l:List Sl) (now a p v:Int):List Sl:=if 0≤(Q1o l a p).1 then Q6j l a p v (now+50) else Q6j (Q3D l (Q5e l).a (Q5e l).p) a p v (now+50)
def OrBr (lo hi:Nat) (w:World) (v:Value) (m:Bm):Prop:=∃vl vb vr vt,v=Q1d m.j.key vl m.j.safe m.p.key vb vr vt∧RiV Q3N lo hi w vl m.j.l∧Qh8 vl∧RcPm lo hi w (plv m.p.key vb vr) m.p∧RiV Q0h lo hi w vt m.t
theorem OrBr.step {a b lo hi:Nat} {w w':World} {v:Value} {m:Bm} (h:OrBr a b w v m) (s:Stp lo hi w w') (hd:hi≤a∨b≤lo):OrBr a b w' v m:=by
 obtain ⟨vl,vb,vr,vt,rfl,h1,h2,h3,h4⟩:=h
 exact ⟨vl,vb,vr,vt,rfl,h1.step s hd,h2,h3.step s hd,h4.step s hd⟩
theorem OrBr.mono {a b a' b':Nat} {w:World} {v:Value} {m:Bm} (h:OrBr a b w v m) (k1:a'≤a) (k2:b≤b'):OrBr a' b' w v m:=by
 obtain ⟨vl,vb,vr,vt,rfl,h1,h2,h3,h4⟩:=h
 exact ⟨vl,vb,vr,vt,rfl,h1.mono k1 k2,h2,h3.mono k1 k2,h4.mono k1 k2⟩
theorem OrBr.or {lo hi:Nat} {w:World} {v:Value} {m:Bm} (h:OrBr lo hi w v m) (hh:hi≤w.heap.size) (ht:0 < m.t.length):Qi9 w v m:=by
 obtain ⟨vl,vb,vr,vt,rfl,h1,h2,h3,o4,c4,rfl,h4⟩:=h;obtain ⟨o,c,rfl,r1⟩:=h1.open;obtain ⟨vb',vr',e8,kb1,kb2,kb3,kb4⟩:=h3
 simp only [Value.agg.injEq,Array.mk.injEq,List.cons.injEq,and_true,true_and] at e8
 obtain ⟨e81,e82⟩:=e8;subst e81 e82;obtain ⟨u9,uc9,rfl,rk9⟩:=RiV.open kb1;obtain ⟨oR,cR,rfl⟩:=RiR.len (RcR.ri kb3)
 rcases h4 with h4|⟨bt,ft,rfl,_,hb4,h4⟩
 ·rw [h4] at ht;simp at ht
 ·exact ⟨o,c,u9,uc9,oR,cR,bt,ft,c4,rfl,r1.le hh,(fun h=> h2 _ _ (by rw [h])),rk9.le hh,(fun h=> kb2 _ _ (by rw [h])),RcR.mon.go kb3 (Kcq _) hh,Kbq hb4 hh,h4⟩
theorem OwBm.br {lo hi:Nat} {w:World} {v:Value} {m:Bm} (h:OwBm lo hi w v m):OrBr lo hi w v m:=by
 obtain ⟨vl,vb,vr,vt,rfl,⟨vl',e1,hin⟩,h2,⟨vt',e2,hint⟩⟩:=h
 simp only [Value.agg.injEq,Array.mk.injEq,List.cons.injEq,and_true,true_and] at e1 e2
 subst e1 e2
 exact ⟨vl,vb,vr,vt,rfl,InRow.ri hin,hin.cap,h2,InRow.ri hint⟩
def Q6P (m:Bm) (now a p v:Int):Bm:=⟨m.j,m.p,Q4q m.t now a p v⟩
theorem Qbq (l:List Sl) (a p v t:Int):(Q6j l a p v t).length=l.length:=by unfold Q6j;split <;> simp
theorem Qdn (l:List Sl) (a p:Int):(Q3D l a p).length=l.length:=by unfold Q3D;split <;> simp [Q4s]
theorem QaJ (kj:Int) (o:Option Addr) (nj c:Nat) (sj kp:Int) (ob:Option Addr) (np cb:Nat) (oR:Option Addr) (nr cR:Nat) (ot:Option Addr) (nt ct:Nat) (lj:List Cd) (lb:List Bk) (lr:List (List (List Int))) (lt:List Sl) (now a p v:Int) (w:World)
  (hOW:∀W:World,Below w.heap.size w W→Calls Tryz.prog 131 #[Q1d kj (.slice o nj c) sj kp (.slice ob np cb) (.slice oR nr cR) (.slice ot nt ct)] W fun e w'=> ∃v',e=.returned v'∧OwBm W.heap.size w'.heap.size w' v' ⟨⟨kj,lj,sj⟩,⟨kp,lb,lr⟩,lt⟩∧Below W.heap.size W w') (hb:Q2i ⟨⟨kj,lj,sj⟩,⟨kp,lb,lr⟩,lt⟩=true) (hf:fitBm ⟨⟨kj,lj,sj⟩,⟨kp,lb,lr⟩,lt⟩) (hn0:0≤now) (hn1:now≤100000) (hfl:Q0f a p=true) (hsf:(Q1o lt a p).1 < 0→Q0f (Q5e lt).a (Q5e lt).p=true) (hfo:Q4w lt):
  Calls Tryz.prog 129 #[Q1d kj (.slice o nj c) sj kp (.slice ob np cb) (.slice oR nr cR) (.slice ot nt ct),.int .i64 now,Q9T a p,.int .i64 v] w fun e w'=> ∃v',e=.returned v'∧OrBr w.heap.size w'.heap.size w' v' (Q6P ⟨⟨kj,lj,sj⟩,⟨kp,lb,lr⟩,lt⟩ now a p v)∧Below w.heap.size w w':=by
 have hw50:IntKind.i64.wrap (now+50)=now+50:=by rw [IntKind.wrap_i64];omega
 have HOW:=Q02 hOW;have h16:=(Q0i.1 (show Q0l lt=true from Q29 hb)).2.1;have HPO:=Q02 (show 0 < lt.length from Q4d hb);have HSF:=Q02 hsf;have HFO:=Q02 hfo;have H16:=Q02 h16;clear hOW hb hf hsf hfo h16;obtain ⟨W0,hW0⟩:∃W,(((w.alloc (.cells #[.int .i64 kj,.slice o nj c,.int .i64 sj,.int .i64 kp,.slice ob np cb,.slice oR nr cR,.slice ot nt ct] 34)).alloc (.cells #[.int .i64 a,.int .i64 p] 36)).alloc (.cells #[.int .i64 0,.slice none 0 0,.int .i64 0,.int .i64 0,.slice none 0 0,.slice none 0 0,.slice none 0 0] 34))=W:=⟨_,rfl⟩
 have hb_W0:Below w.heap.size w W0:=by rw [←hW0];exact ((((Below.refl _ _).alloc (Kaq _) _).alloc (by simp <;> omega) _).alloc (by simp <;> omega) _)
 have HB:=Q02 hb_W0;clear hb_W0
 have zz:w.heap.size < W0.heap.size:=by rw [←hW0];simp <;> omega
 obtain ⟨z0,z1,z2,z3,z4,z5,z6⟩:=alc7v0v3 hW0
 have zx:w.heap.size+1 < W0.heap.size:=by rw [←hW0];simp <;> omega
 obtain ⟨x0,x1⟩:=alc2v1v3 hW0
 have zr:w.heap.size+1+1 < W0.heap.size:=by rw [←hW0];simp
 obtain ⟨r0,r1,r2,r3,r4,r5,r6⟩:=alc7v2v3 hW0;obtain ⟨fr0,fr1,fr2,fr3,fr4,fr5,fr6⟩:=alf7v2v3 hW0;have hzr:w.heap.size+1+1 < W0.heap.size:=zr
 go_enter Tryz.func129,Tryz.ntmps129
 go_wp2_with fail
 refine (HOW.out W0 HB.out).mono ?_
 rintro e v1 ⟨vo9,rfl,ino,hb⟩
 have HIO:=Q02 ino;have hs1:=hb.size;clear ino HOW;replace z0:=bC hb z0 zz;replace z1:=bC hb z1 zz;replace z2:=bC hb z2 zz;replace z3:=bC hb z3 zz;replace z4:=bC hb z4 zz;replace z5:=bC hb z5 zz;replace z6:=bC hb z6 zz;replace zz:=Kbq zz hb.size;replace x0:=bC hb x0 zx;replace x1:=bC hb x1 zx;replace zx:=Kbq zx hb.size;replace r0:=bC hb r0 zr;replace r1:=bC hb r1 zr;replace r2:=bC hb r2 zr;replace r3:=bC hb r3 zr;replace r4:=bC hb r4 zr;replace r5:=bC hb r5 zr;replace r6:=bC hb r6 zr;replace fr0:=bF hb fr0 zr;replace fr1:=bF hb fr1 zr;replace fr2:=bF hb fr2 zr;replace fr3:=bF hb fr3 zr
 replace fr4:=bF hb fr4 zr;replace fr5:=bF hb fr5 zr;replace fr6:=bF hb fr6 zr;replace zr:=Kbq zr hb.size;replace HB:=Q02 (HB.out.trans (hb.mono HB.out.size));clear hb;obtain ⟨o9,c9,ob9,cb9,oR9,cR9,ot9,ct9,e9⟩:=HIO.out.rd.opn
 dsimp only at e9
 obtain ⟨nj9,hnj9⟩:∃x,lj.length=x:=⟨_,rfl⟩;obtain ⟨np9,hnp9⟩:∃x,lb.length=x:=⟨_,rfl⟩;obtain ⟨nr9,hnr9⟩:∃x,lr.length=x:=⟨_,rfl⟩;obtain ⟨nt9,hnt9⟩:∃x,lt.length=x:=⟨_,rfl⟩
 rw [hnj9,hnp9,hnr9,hnt9] at e9
 subst e9;obtain ⟨hnj8,hj8,hp8,ht8⟩:=Q8c HIO.out;clear hnj8;have rt8:=ht8.row;have rt7:=ht8.rd;obtain ⟨vt7,et7,ot7,ct7,et8,rs7⟩:=rt7
 simp only [Value.agg.injEq,Array.mk.injEq,List.cons.injEq,and_true] at et7
 subst et7
 injection et8 with et81 et82 et83
 subst et81 et83;obtain ⟨g9,f9,eg9,hg9,hcell9⟩:=Qfy rs7 HPO.out;subst eg9;have hgl:W0.heap.size≤g9:=(rt8.1.lt g9 rfl).1;have HC9:=Q02 hcell9;clear rt8 rs7 hcell9 ht8 hj8 hp8 et82;have HNN:=Q02 (And.intro hnj9 (And.intro hnp9 (And.intro hnr9 hnt9)));clear hnj9 hnp9 hnr9 hnt9;obtain ⟨W2,hW2⟩:∃W,(v1.alloc (.cells #[.int .i64 kj,.slice o9 nj9 c9,.int .i64 sj,.int .i64 kp,.slice ob9 np9 cb9,.slice oR9 nr9 cR9,.slice (some ⟨g9,f9,none⟩) nt9 ct9] 34))=W:=⟨_,rfl⟩
 have hb_W2:Below v1.heap.size v1 W2:=by rw [←hW2];exact ((Below.refl _ _).alloc (Kaq _) _)
 replace z0:=bC hb_W2 z0 zz;replace z1:=bC hb_W2 z1 zz;replace z2:=bC hb_W2 z2 zz;replace z3:=bC hb_W2 z3 zz;replace z4:=bC hb_W2 z4 zz;replace z5:=bC hb_W2 z5 zz;replace z6:=bC hb_W2 z6 zz;replace zz:=Kbq zz hb_W2.size;replace x0:=bC hb_W2 x0 zx;replace x1:=bC hb_W2 x1 zx;replace zx:=Kbq zx hb_W2.size;replace r0:=bC hb_W2 r0 zr;replace r1:=bC hb_W2 r1 zr;replace r2:=bC hb_W2 r2 zr;replace r3:=bC hb_W2 r3 zr;replace r4:=bC hb_W2 r4 zr;replace r5:=bC hb_W2 r5 zr;replace r6:=bC hb_W2 r6 zr;replace fr0:=bF hb_W2 fr0 zr;replace fr1:=bF hb_W2 fr1 zr;replace fr2:=bF hb_W2 fr2 zr
 replace fr3:=bF hb_W2 fr3 zr;replace fr4:=bF hb_W2 fr4 zr;replace fr5:=bF hb_W2 fr5 zr;replace fr6:=bF hb_W2 fr6 zr;replace zr:=Kbq zr hb_W2.size;replace HB:=Q02 (HB.out.trans (hb_W2.mono HB.out.size));clear hb_W2
 have zu:v1.heap.size < W2.heap.size:=by rw [←hW2];simp
 obtain ⟨u0,u1,u2,u3,u4,u5,u6⟩:=alc7v0v1 hW2;obtain ⟨fu0,fu1,fu2,fu3,fu4,fu5,fu6⟩:=alf7v0v1 hW2;have hu:v1.heap.size < W2.heap.size:=zu
 have hbW2:Below v1.heap.size v1 W2:=by rw [←hW2];exact (Below.refl _ _).alloc (Kaq _) _
 replace HC9:Hid (∀i,i < lt.length→∀j,j < Q0h.k→W2.cell? ⟨g9,f9+i * Q0h.k+j,none⟩=(Q0h.cs (lt.getD i Q0h.d))[j]?):=Q02 (fun i hi j hj=> (hbW2.cell (p:=⟨g9,f9+i * Q0h.k+j,none⟩) hg9).trans (HC9.out i hi j hj))
 have HEX:=Q02 (Q5v g9 f9 ct9 lt a p v (now+50) W2 HPO.out (by have:=H16.out;omega) hfl (by omega) HC9.out)
 have HXU:Hid (W2.heap[v1.heap.size]? =some (.cells #[.int .i64 kj,.slice o9 nj9 c9,.int .i64 sj,.int .i64 kp,.slice ob9 np9 cb9,.slice oR9 nr9 cR9,.slice (some ⟨g9,f9,none⟩) nt9 ct9] 34 (0,0))):=by rw [←hW2];exact World.alloc_heap_new v1 _
 rw [HNN.out.2.2.2] at HEX
 have hBI:=Q02 hbW2;clear hbW2;replace HIO:=Q02 (HIO.out.step (Stp.of (lo:=0) (hi:=0) hBI.out) (.inl (Kcq _)));obtain ⟨el,hel⟩:∃x,Q6j lt a p v (now+50)=x:=⟨_,rfl⟩
 have HLL:=Q02 (show el.length=lt.length by rw [←hel];exact Qbq _ _ _ _ _)
 have HLY:=Q02 (show 0≤(Q1o lt a p).1→Q4q lt now a p v=el from fun h=> by unfold Q4q;rw [if_pos h,hel])
 rw [hel] at HEX
 clear hel
 have HLN:=Q02 (show ¬0≤(Q1o lt a p).1→Q4q lt now a p v=Q6j (Q3D lt (Q5e lt).a (Q5e lt).p) a p v (now+50) from fun h=> by unfold Q4q;rw [if_neg h])
 go_wp2_with fail
 refine (HEX.out).mono ?_
 rintro e v2 ⟨g8,f8,ct8,rfl,hg8,hcell8,hb,hor⟩
 have HC8:=Q02 hcell8;have hs3:=hb.size;replace HXU:=Q02 ((hb.block _ hu).trans HXU.out);replace HIO:=Q02 (HIO.out.step (Stp.of (lo:=0) (hi:=0) hb) (.inl (Kcq _)))
 replace HC9:Hid (∀i,i < lt.length→∀j,j < Q0h.k→v2.cell? ⟨g9,f9+i * Q0h.k+j,none⟩=(Q0h.cs (lt.getD i Q0h.d))[j]?):=Q02 (fun i hi j hj=> (hb.cell (p:=⟨g9,f9+i * Q0h.k+j,none⟩) (show g9 < W2.heap.size by omega)).trans (HC9.out i hi j hj))
 clear hcell8 HEX;replace z0:=bC hb z0 zz;replace z1:=bC hb z1 zz;replace z2:=bC hb z2 zz;replace z3:=bC hb z3 zz;replace z4:=bC hb z4 zz;replace z5:=bC hb z5 zz;replace z6:=bC hb z6 zz;replace zz:=Kbq zz hb.size;replace x0:=bC hb x0 zx;replace x1:=bC hb x1 zx;replace zx:=Kbq zx hb.size;replace r0:=bC hb r0 zr;replace r1:=bC hb r1 zr;replace r2:=bC hb r2 zr;replace r3:=bC hb r3 zr;replace r4:=bC hb r4 zr;replace r5:=bC hb r5 zr;replace r6:=bC hb r6 zr;replace fr0:=bF hb fr0 zr;replace fr1:=bF hb fr1 zr;replace fr2:=bF hb fr2 zr;replace fr3:=bF hb fr3 zr;replace fr4:=bF hb fr4 zr
 replace fr5:=bF hb fr5 zr;replace fr6:=bF hb fr6 zr;replace zr:=Kbq zr hb.size;replace u0:=bC hb u0 zu;replace u1:=bC hb u1 zu;replace u2:=bC hb u2 zu;replace u3:=bC hb u3 zu;replace u4:=bC hb u4 zu;replace u5:=bC hb u5 zu;replace u6:=bC hb u6 zu;replace fu0:=bF hb fu0 zu;replace fu1:=bF hb fu1 zu;replace fu2:=bF hb fu2 zu;replace fu3:=bF hb fu3 zu;replace fu4:=bF hb fu4 zu;replace fu5:=bF hb fu5 zu;replace fu6:=bF hb fu6 zu;replace zu:=Kbq zu hb.size;replace HB:=Q02 (HB.out.trans (hb.mono HB.out.size));clear hb
 obtain ⟨W4,hW4⟩:∃W,(v2.alloc (.cells #[.slice (some ⟨g8,f8,none⟩) nt9 ct8] 32))=W:=⟨_,rfl⟩
 have hb_W4:Below v2.heap.size v2 W4:=by rw [←hW4];exact ((Below.refl _ _).alloc (Kaq _) _)
 replace z0:=bC hb_W4 z0 zz;replace z1:=bC hb_W4 z1 zz;replace z2:=bC hb_W4 z2 zz;replace z3:=bC hb_W4 z3 zz;replace z4:=bC hb_W4 z4 zz;replace z5:=bC hb_W4 z5 zz;replace z6:=bC hb_W4 z6 zz;replace zz:=Kbq zz hb_W4.size;replace x0:=bC hb_W4 x0 zx;replace x1:=bC hb_W4 x1 zx;replace zx:=Kbq zx hb_W4.size;replace r0:=bC hb_W4 r0 zr;replace r1:=bC hb_W4 r1 zr;replace r2:=bC hb_W4 r2 zr;replace r3:=bC hb_W4 r3 zr;replace r4:=bC hb_W4 r4 zr;replace r5:=bC hb_W4 r5 zr;replace r6:=bC hb_W4 r6 zr;replace fr0:=bF hb_W4 fr0 zr;replace fr1:=bF hb_W4 fr1 zr;replace fr2:=bF hb_W4 fr2 zr
 replace fr3:=bF hb_W4 fr3 zr;replace fr4:=bF hb_W4 fr4 zr;replace fr5:=bF hb_W4 fr5 zr;replace fr6:=bF hb_W4 fr6 zr;replace zr:=Kbq zr hb_W4.size;replace u0:=bC hb_W4 u0 zu;replace u1:=bC hb_W4 u1 zu;replace u2:=bC hb_W4 u2 zu;replace u3:=bC hb_W4 u3 zu;replace u4:=bC hb_W4 u4 zu;replace u5:=bC hb_W4 u5 zu;replace u6:=bC hb_W4 u6 zu;replace fu0:=bF hb_W4 fu0 zu;replace fu1:=bF hb_W4 fu1 zu;replace fu2:=bF hb_W4 fu2 zu;replace fu3:=bF hb_W4 fu3 zu;replace fu4:=bF hb_W4 fu4 zu;replace fu5:=bF hb_W4 fu5 zu;replace fu6:=bF hb_W4 fu6 zu;replace zu:=Kbq zu hb_W4.size
 replace HB:=Q02 (HB.out.trans (hb_W4.mono HB.out.size));clear hb_W4
 have zt:v2.heap.size < W4.heap.size:=by rw [←hW4];simp
 have t0:W4.cell? ⟨v2.heap.size,0,none⟩=some (.slice (some ⟨g8,f8,none⟩) nt9 ct8):=by rw [←hW4];simp [go_sem]
 have ft0:W4.frozen? ⟨v2.heap.size,0,none⟩=false:=by rw [←hW4];simp [go_sem]
 have hs4:v2.heap.size < W4.heap.size:=zt
 have hlr:w.heap.size+1+1 < v1.heap.size:=by omega
 have hb4:Below v2.heap.size v2 W4:=by rw [←hW4];exact (Below.refl _ _).alloc (Kaq _) _
 replace HXU:=Q02 ((hb4.block _ (by omega)).trans HXU.out)
 replace HIO:=Q02 (HIO.out.step (Stp.of (lo:=0) (hi:=0) hb4) (.inl (Kcq _)))
 replace HC9:Hid (∀i,i < lt.length→∀j,j < Q0h.k→W4.cell? ⟨g9,f9+i * Q0h.k+j,none⟩=(Q0h.cs (lt.getD i Q0h.d))[j]?):=Q02 (fun i hi j hj=> (hb4.cell (p:=⟨g9,f9+i * Q0h.k+j,none⟩) (show g9 < v2.heap.size by omega)).trans (HC9.out i hi j hj))
 replace HC8:Hid (∀i,i < el.length→∀j,j < Q0h.k→W4.cell? ⟨g8,f8+i * Q0h.k+j,none⟩=(Q0h.cs (el.getD i Q0h.d))[j]?):=Q02 (fun i hi j hj=> (hb4.cell (p:=⟨g8,f8+i * Q0h.k+j,none⟩) hg8).trans (HC8.out i hi j hj))
 clear hb4
 have HFN:Hid (∀(SX:World) (g8 f8 ct8:Nat) (el:List Sl),el.length=lt.length→Q4q lt now a p v=el→OwBm W0.heap.size v1.heap.size SX (Q1d kj (.slice o9 nj9 c9) sj kp (.slice ob9 np9 cb9) (.slice oR9 nr9 cR9) (.slice (some ⟨g9,f9,none⟩) nt9 ct9)) ⟨⟨kj,lj,sj⟩,⟨kp,lb,lr⟩,lt⟩→(∀i,i < el.length→∀j,j < Q0h.k→SX.cell? ⟨g8,f8+i * Q0h.k+j,none⟩=(Q0h.cs (el.getD i Q0h.d))[j]?)→v1.heap.size≤SX.heap.size→g8 < SX.heap.size→w.heap.size≤g8→OrBr w.heap.size SX.heap.size SX (Q1d kj (.slice o9 nj9 c9) sj kp (.slice ob9 np9 cb9) (.slice oR9 nr9 cR9) (.slice (some ⟨g8,f8,none⟩) nt9 ct8)) (Q6P ⟨⟨kj,lj,sj⟩,⟨kp,lb,lr⟩,lt⟩ now a p v)):=by
  refine Q02 ?_
  intro SX g8 f8 ct8 el hell hlx hO9 hcl hup hgx hgl
  obtain ⟨e1,e2,e3,e4⟩:=HNN.out
  rw [show Q6P ⟨⟨kj,lj,sj⟩,⟨kp,lb,lr⟩,lt⟩ now a p v=⟨⟨kj,lj,sj⟩,⟨kp,lb,lr⟩,el⟩ by rw [←hlx];rfl]
  have e5:nt9=el.length:=by rw [hell,e4]
  obtain ⟨_,hj8,hp8,_⟩:=Q8c hO9;have cj8:=hj8.cap;obtain ⟨vl8,el8,hin8⟩:=hj8
  simp only [Value.agg.injEq,Array.mk.injEq,List.cons.injEq,and_true,true_and] at el8
  subst el8
  have hlo:w.heap.size≤W0.heap.size:=by omega
  exact ⟨_,_,_,_,rfl,(InRow.ri hin8).mono hlo hup,(fun n c h=> by injection h with h1 h2 h3;rw [←h3];exact capJm.one cj8 h1),hp8.mono hlo hup,⟨some ⟨g8,f8,none⟩,ct8,by rw [e5],.inr ⟨g8,f8,rfl,hgl,hgx,hcl⟩⟩⟩
 obtain ⟨ee,hee⟩:∃x,(Q1o lt a p).1=x:=⟨_,rfl⟩
 rw [hee] at HSF HLY HLN
 simp only [hee]
 clear hee
 by_cases hy:0≤ee
 ·have hyd:decide (0≤ee)=true:=by simp [hy]
  have hll:=HLY.out hy;have HLLL:=Q02 hll;clear hll HLY HLN
  have hgn:g8 < v1.heap.size∨v1.heap.size+1≤g8:=by omega
  have hgr:g8 < w.heap.size+1+1∨w.heap.size+1+1+1≤g8:=by omega
  have X5:(W4.setCell ⟨v1.heap.size,6,none⟩ (.slice (some ⟨g8,f8,none⟩) nt9 ct8)).heap[v1.heap.size]? =some (.cells #[.int .i64 kj,.slice o9 nj9 c9,.int .i64 sj,.int .i64 kp,.slice ob9 np9 cb9,.slice oR9 nr9 cR9,.slice (some ⟨g8,f8,none⟩) nt9 ct8] 34 (0,0)):=Q06 HXU.out 6 _;have s5:Stp v1.heap.size (v1.heap.size+1) W4 (W4.setCell ⟨v1.heap.size,6,none⟩ (.slice (some ⟨g8,f8,none⟩) nt9 ct8)):=Q0t W4 v1.heap.size 6 _;have y0:(W4.setCell ⟨v1.heap.size,6,none⟩ (.slice (some ⟨g8,f8,none⟩) nt9 ct8)).cell? ⟨v1.heap.size,0,none⟩=some (.int .i64 kj):=Q00 X5 0 _ rfl
  have y1:(W4.setCell ⟨v1.heap.size,6,none⟩ (.slice (some ⟨g8,f8,none⟩) nt9 ct8)).cell? ⟨v1.heap.size,1,none⟩=some (.slice o9 nj9 c9):=Q00 X5 1 _ rfl;have y2:(W4.setCell ⟨v1.heap.size,6,none⟩ (.slice (some ⟨g8,f8,none⟩) nt9 ct8)).cell? ⟨v1.heap.size,2,none⟩=some (.int .i64 sj):=Q00 X5 2 _ rfl;have y3:(W4.setCell ⟨v1.heap.size,6,none⟩ (.slice (some ⟨g8,f8,none⟩) nt9 ct8)).cell? ⟨v1.heap.size,3,none⟩=some (.int .i64 kp):=Q00 X5 3 _ rfl;have y4:(W4.setCell ⟨v1.heap.size,6,none⟩ (.slice (some ⟨g8,f8,none⟩) nt9 ct8)).cell? ⟨v1.heap.size,4,none⟩=some (.slice ob9 np9 cb9):=Q00 X5 4 _ rfl
  have y5:(W4.setCell ⟨v1.heap.size,6,none⟩ (.slice (some ⟨g8,f8,none⟩) nt9 ct8)).cell? ⟨v1.heap.size,5,none⟩=some (.slice oR9 nr9 cR9):=Q00 X5 5 _ rfl;have y6:(W4.setCell ⟨v1.heap.size,6,none⟩ (.slice (some ⟨g8,f8,none⟩) nt9 ct8)).cell? ⟨v1.heap.size,6,none⟩=some (.slice (some ⟨g8,f8,none⟩) nt9 ct8):=Q00 X5 6 _ rfl;have r5_0:=s5.cellP r0 (.inl hlr);have r5_1:=s5.cellP r1 (.inl hlr);have r5_2:=s5.cellP r2 (.inl hlr);have r5_3:=s5.cellP r3 (.inl hlr);have r5_4:=s5.cellP r4 (.inl hlr);have r5_5:=s5.cellP r5 (.inl hlr);have r5_6:=s5.cellP r6 (.inl hlr)
  have fr5_0:=Stp.frozen s5 fr0 (by omega) (.inl hlr)
  have fr5_1:=Stp.frozen s5 fr1 (by omega) (.inl hlr)
  have fr5_2:=Stp.frozen s5 fr2 (by omega) (.inl hlr)
  have fr5_3:=Stp.frozen s5 fr3 (by omega) (.inl hlr)
  have fr5_4:=Stp.frozen s5 fr4 (by omega) (.inl hlr)
  have fr5_5:=Stp.frozen s5 fr5 (by omega) (.inl hlr)
  have fr5_6:=Stp.frozen s5 fr6 (by omega) (.inl hlr)
  have HFI:Hid (OrBr w.heap.size (Q1Q (W4.setCell ⟨v1.heap.size,6,none⟩ (.slice (some ⟨g8,f8,none⟩) nt9 ct8)) (w.heap.size+1+1) (.int .i64 kj) (.slice o9 nj9 c9) (.int .i64 sj) (.int .i64 kp) (.slice ob9 np9 cb9) (.slice oR9 nr9 cR9) (.slice (some ⟨g8,f8,none⟩) nt9 ct8)).heap.size (Q1Q (W4.setCell ⟨v1.heap.size,6,none⟩ (.slice (some ⟨g8,f8,none⟩) nt9 ct8)) (w.heap.size+1+1) (.int .i64 kj) (.slice o9 nj9 c9) (.int .i64 sj) (.int .i64 kp) (.slice ob9 np9 cb9) (.slice oR9 nr9 cR9) (.slice (some ⟨g8,f8,none⟩) nt9 ct8)) (Q1d kj (.slice o9 nj9 c9) sj kp (.slice ob9 np9 cb9) (.slice oR9 nr9 cR9) (.slice (some ⟨g8,f8,none⟩) nt9 ct8)) (Q6P ⟨⟨kj,lj,sj⟩,⟨kp,lb,lr⟩,lt⟩ now a p v)∧Below w.heap.size w (Q1Q (W4.setCell ⟨v1.heap.size,6,none⟩ (.slice (some ⟨g8,f8,none⟩) nt9 ct8)) (w.heap.size+1+1) (.int .i64 kj) (.slice o9 nj9 c9) (.int .i64 sj) (.int .i64 kp) (.slice ob9 np9 cb9) (.slice oR9 nr9 cR9) (.slice (some ⟨g8,f8,none⟩) nt9 ct8))):=by
   have sR:=Q1a (W4.setCell ⟨v1.heap.size,6,none⟩ (.slice (some ⟨g8,f8,none⟩) nt9 ct8)) (w.heap.size+1+1) (.int .i64 kj) (.slice o9 nj9 c9) (.int .i64 sj) (.int .i64 kp) (.slice ob9 np9 cb9) (.slice oR9 nr9 cR9) (.slice (some ⟨g8,f8,none⟩) nt9 ct8)
   have hszR:(Q1Q (W4.setCell ⟨v1.heap.size,6,none⟩ (.slice (some ⟨g8,f8,none⟩) nt9 ct8)) (w.heap.size+1+1) (.int .i64 kj) (.slice o9 nj9 c9) (.int .i64 sj) (.int .i64 kp) (.slice ob9 np9 cb9) (.slice oR9 nr9 cR9) (.slice (some ⟨g8,f8,none⟩) nt9 ct8)).heap.size=(W4.setCell ⟨v1.heap.size,6,none⟩ (.slice (some ⟨g8,f8,none⟩) nt9 ct8)).heap.size:=Q0F _ _ _ _ _ _ _ _ _;have hz5:=s5.size
   have hO9:=(HIO.out.step s5 (.inr (Kaq _))).step sR (.inl (by omega))
   have hcl:∀i,i < el.length→∀j,j < Q0h.k→(Q1Q (W4.setCell ⟨v1.heap.size,6,none⟩ (.slice (some ⟨g8,f8,none⟩) nt9 ct8)) (w.heap.size+1+1) (.int .i64 kj) (.slice o9 nj9 c9) (.int .i64 sj) (.int .i64 kp) (.slice ob9 np9 cb9) (.slice oR9 nr9 cR9) (.slice (some ⟨g8,f8,none⟩) nt9 ct8)).cell? ⟨g8,f8+i * Q0h.k+j,none⟩=(Q0h.cs (el.getD i Q0h.d))[j]? :=fun i hi j hj=> (Q39 sR (b:=g8) (j:=f8+i * Q0h.k+j) (by omega) hgr).trans ((Q39 s5 (b:=g8) (j:=f8+i * Q0h.k+j) (by omega) hgn).trans (HC8.out i hi j hj))
   exact ⟨HFN.out _ _ _ _ _ HLL.out HLLL.out hO9 hcl (by rw [hszR];omega) (by rw [hszR];omega) (by omega),Q0z (HB.out.trans (s5.below (by omega) HB.out.size)) (by omega) _ _ _ _ _ _ _⟩
  clear HFN X5 s5 HIO HC8 HC9 HXU
  go_wp2
  refine bodyPost_ret (v:=Q1d kj (.slice o9 nj9 c9) sj kp (.slice ob9 np9 cb9) (.slice oR9 nr9 cR9) (.slice (some ⟨g8,f8,none⟩) nt9 ct8)) (by simp [results,Tryz.results129,go_sem,r0,r1,r2,r3,r4,r5,r6,r5_0,r5_1,r5_2,r5_3,r5_4,r5_5,r5_6]) rfl ⟨_,rfl,HFI.out.1,HFI.out.2⟩
 ·have hyd:decide (0≤ee)=false:=by simp [hy]
  have HXT:Hid (W4.heap[v2.heap.size]? =some (.cells #[.slice (some ⟨g8,f8,none⟩) nt9 ct8] 32 (0,0))):=by rw [←hW4];exact World.alloc_heap_new v2 _
  have hlx:=HLN.out (by omega)
  have HLX:=Q02 hlx
  have hsx:=HSF.out (by omega)
  clear hlx HLN HLY HSF HC8
  have HSO:=Q02 (Q8l g9 f9 ct9 lt W4 (by omega) HC9.out (by have:=H16.out;omega))
  rw [HNN.out.2.2.2] at HSO
  obtain ⟨sq,hsq⟩:∃x,Q5e lt=x:=⟨_,rfl⟩
  rw [hsq] at HSO HLX hsx
  clear hsq
  go_wp2_with fail
  refine (HSO.out).mono ?_
  rintro e v3 ⟨rfl,hb⟩
  have hs5:=hb.size
  replace HXU:=Q02 ((hb.block _ (by omega)).trans HXU.out)
  replace HXT:=Q02 ((hb.block _ (by omega)).trans HXT.out)
  replace HIO:=Q02 (HIO.out.step (Stp.of (lo:=0) (hi:=0) hb) (.inl (Kcq _)))
  replace HC9:Hid (∀i,i < lt.length→∀j,j < Q0h.k→v3.cell? ⟨g9,f9+i * Q0h.k+j,none⟩=(Q0h.cs (lt.getD i Q0h.d))[j]?):=Q02 (fun i hi j hj=> (hb.cell (p:=⟨g9,f9+i * Q0h.k+j,none⟩) (show g9 < W4.heap.size by omega)).trans (HC9.out i hi j hj))
  clear HSO;replace z0:=bC hb z0 zz;replace z1:=bC hb z1 zz;replace z2:=bC hb z2 zz;replace z3:=bC hb z3 zz;replace z4:=bC hb z4 zz;replace z5:=bC hb z5 zz;replace z6:=bC hb z6 zz;replace zz:=Kbq zz hb.size;replace x0:=bC hb x0 zx;replace x1:=bC hb x1 zx;replace zx:=Kbq zx hb.size;replace r0:=bC hb r0 zr;replace r1:=bC hb r1 zr;replace r2:=bC hb r2 zr;replace r3:=bC hb r3 zr;replace r4:=bC hb r4 zr;replace r5:=bC hb r5 zr;replace r6:=bC hb r6 zr;replace fr0:=bF hb fr0 zr;replace fr1:=bF hb fr1 zr;replace fr2:=bF hb fr2 zr;replace fr3:=bF hb fr3 zr;replace fr4:=bF hb fr4 zr
  replace fr5:=bF hb fr5 zr;replace fr6:=bF hb fr6 zr;replace zr:=Kbq zr hb.size;replace u0:=bC hb u0 zu;replace u1:=bC hb u1 zu;replace u2:=bC hb u2 zu;replace u3:=bC hb u3 zu;replace u4:=bC hb u4 zu;replace u5:=bC hb u5 zu;replace u6:=bC hb u6 zu;replace fu0:=bF hb fu0 zu;replace fu1:=bF hb fu1 zu;replace fu2:=bF hb fu2 zu;replace fu3:=bF hb fu3 zu;replace fu4:=bF hb fu4 zu;replace fu5:=bF hb fu5 zu;replace fu6:=bF hb fu6 zu;replace zu:=Kbq zu hb.size;replace t0:=bC hb t0 zt;replace ft0:=bF hb ft0 zt;replace zt:=Kbq zt hb.size;replace HB:=Q02 (HB.out.trans (hb.mono HB.out.size));clear hb
  obtain ⟨W6,hW6⟩:∃W,(v3.alloc (.cells #[.bool sq.u,.int .i64 sq.a,.int .i64 sq.p,.int .i64 sq.v,.int .i64 sq.t] 101))=W:=⟨_,rfl⟩
  have hb_W6:Below v3.heap.size v3 W6:=by rw [←hW6];exact ((Below.refl _ _).alloc (Kaq _) _)
  replace z0:=bC hb_W6 z0 zz;replace z1:=bC hb_W6 z1 zz;replace z2:=bC hb_W6 z2 zz;replace z3:=bC hb_W6 z3 zz;replace z4:=bC hb_W6 z4 zz;replace z5:=bC hb_W6 z5 zz;replace z6:=bC hb_W6 z6 zz;replace zz:=Kbq zz hb_W6.size;replace x0:=bC hb_W6 x0 zx;replace x1:=bC hb_W6 x1 zx;replace zx:=Kbq zx hb_W6.size;replace r0:=bC hb_W6 r0 zr;replace r1:=bC hb_W6 r1 zr;replace r2:=bC hb_W6 r2 zr;replace r3:=bC hb_W6 r3 zr;replace r4:=bC hb_W6 r4 zr;replace r5:=bC hb_W6 r5 zr;replace r6:=bC hb_W6 r6 zr;replace fr0:=bF hb_W6 fr0 zr;replace fr1:=bF hb_W6 fr1 zr;replace fr2:=bF hb_W6 fr2 zr
  replace fr3:=bF hb_W6 fr3 zr;replace fr4:=bF hb_W6 fr4 zr;replace fr5:=bF hb_W6 fr5 zr;replace fr6:=bF hb_W6 fr6 zr;replace zr:=Kbq zr hb_W6.size;replace u0:=bC hb_W6 u0 zu;replace u1:=bC hb_W6 u1 zu;replace u2:=bC hb_W6 u2 zu;replace u3:=bC hb_W6 u3 zu;replace u4:=bC hb_W6 u4 zu;replace u5:=bC hb_W6 u5 zu;replace u6:=bC hb_W6 u6 zu;replace fu0:=bF hb_W6 fu0 zu;replace fu1:=bF hb_W6 fu1 zu;replace fu2:=bF hb_W6 fu2 zu;replace fu3:=bF hb_W6 fu3 zu;replace fu4:=bF hb_W6 fu4 zu;replace fu5:=bF hb_W6 fu5 zu;replace fu6:=bF hb_W6 fu6 zu;replace zu:=Kbq zu hb_W6.size;replace t0:=bC hb_W6 t0 zt
  replace ft0:=bF hb_W6 ft0 zt;replace zt:=Kbq zt hb_W6.size;replace HB:=Q02 (HB.out.trans (hb_W6.mono HB.out.size));clear hb_W6
  have zq:v3.heap.size < W6.heap.size:=by rw [←hW6];simp
  obtain ⟨q0,q1,q2,q3,q4⟩:=alc5v0v1 hW6;have hs6:v3.heap.size < W6.heap.size:=zq
  have hb6:Below v3.heap.size v3 W6:=by rw [←hW6];exact (Below.refl _ _).alloc (Kaq _) _
  replace HXU:=Q02 ((hb6.block _ (by omega)).trans HXU.out)
  replace HXT:=Q02 ((hb6.block _ (by omega)).trans HXT.out)
  replace HIO:=Q02 (HIO.out.step (Stp.of (lo:=0) (hi:=0) hb6) (.inl (Kcq _)))
  replace HC9:Hid (∀i,i < lt.length→∀j,j < Q0h.k→W6.cell? ⟨g9,f9+i * Q0h.k+j,none⟩=(Q0h.cs (lt.getD i Q0h.d))[j]?):=Q02 (fun i hi j hj=> (hb6.cell (p:=⟨g9,f9+i * Q0h.k+j,none⟩) (show g9 < v3.heap.size by omega)).trans (HC9.out i hi j hj))
  clear hb6
  have HDR:=Q02 (Q6A g9 f9 ct9 lt sq.a sq.p W6 HPO.out H16.out hsx HFO.out (by omega) HC9.out)
  rw [HNN.out.2.2.2] at HDR
  obtain ⟨dl,hdl⟩:∃x,Q3D lt sq.a sq.p=x:=⟨_,rfl⟩;obtain ⟨ed,hed⟩:∃x,(Q1o lt sq.a sq.p).2=x:=⟨_,rfl⟩
  have HDL:=Q02 (show dl.length=lt.length by rw [←hdl];exact Qdn _ _ _)
  rw [hdl] at HDR HLX
  rw [hed] at HDR
  clear hdl hed
  go_wp2_with fail
  refine (HDR.out).mono ?_
  rintro e v4 ⟨g7,f7,ct7,rfl,hg7,hcell7,hb,hor7⟩
  have HC7:=Q02 hcell7;have hs7:=hb.size
  replace HXU:=Q02 ((hb.block _ (by omega)).trans HXU.out)
  replace HXT:=Q02 ((hb.block _ (by omega)).trans HXT.out)
  replace HIO:=Q02 (HIO.out.step (Stp.of (lo:=0) (hi:=0) hb) (.inl (Kcq _)));clear HDR hcell7 HC9;replace z0:=bC hb z0 zz;replace z1:=bC hb z1 zz;replace z2:=bC hb z2 zz;replace z3:=bC hb z3 zz;replace z4:=bC hb z4 zz;replace z5:=bC hb z5 zz;replace z6:=bC hb z6 zz;replace zz:=Kbq zz hb.size;replace x0:=bC hb x0 zx;replace x1:=bC hb x1 zx;replace zx:=Kbq zx hb.size;replace r0:=bC hb r0 zr;replace r1:=bC hb r1 zr;replace r2:=bC hb r2 zr;replace r3:=bC hb r3 zr;replace r4:=bC hb r4 zr;replace r5:=bC hb r5 zr;replace r6:=bC hb r6 zr;replace fr0:=bF hb fr0 zr;replace fr1:=bF hb fr1 zr
  replace fr2:=bF hb fr2 zr;replace fr3:=bF hb fr3 zr;replace fr4:=bF hb fr4 zr;replace fr5:=bF hb fr5 zr;replace fr6:=bF hb fr6 zr;replace zr:=Kbq zr hb.size;replace u0:=bC hb u0 zu;replace u1:=bC hb u1 zu;replace u2:=bC hb u2 zu;replace u3:=bC hb u3 zu;replace u4:=bC hb u4 zu;replace u5:=bC hb u5 zu;replace u6:=bC hb u6 zu;replace fu0:=bF hb fu0 zu;replace fu1:=bF hb fu1 zu;replace fu2:=bF hb fu2 zu;replace fu3:=bF hb fu3 zu;replace fu4:=bF hb fu4 zu;replace fu5:=bF hb fu5 zu;replace fu6:=bF hb fu6 zu;replace zu:=Kbq zu hb.size;replace t0:=bC hb t0 zt;replace ft0:=bF hb ft0 zt
  replace zt:=Kbq zt hb.size;replace q0:=bC hb q0 zq;replace q1:=bC hb q1 zq;replace q2:=bC hb q2 zq;replace q3:=bC hb q3 zq;replace q4:=bC hb q4 zq;replace zq:=Kbq zq hb.size;replace HB:=Q02 (HB.out.trans (hb.mono HB.out.size));clear hb
  have hkz:w.heap.size < v2.heap.size:=by omega
  have hkx:w.heap.size+1 < v2.heap.size:=by omega
  have hkr:w.heap.size+1+1 < v2.heap.size:=by omega
  have hku:v1.heap.size < v2.heap.size:=by omega
  have hkq:v2.heap.size+1≤v3.heap.size:=by omega
  obtain ⟨W7,hW7⟩:∃W,v4.setCell ⟨v2.heap.size,0,none⟩ (.slice (some ⟨g7,f7,none⟩) nt9 ct7)=W:=⟨_,rfl⟩
  have s7:Stp v2.heap.size (v2.heap.size+1) v4 W7:=by rw [←hW7];exact Q0t v4 v2.heap.size 0 _
  have X7:W7.heap[v2.heap.size]? =some (.cells #[.slice (some ⟨g7,f7,none⟩) nt9 ct7] 32 (0,0)):=by rw [←hW7];exact Q06 HXT.out 0 _
  have hz7:=s7.size
  have hg7n:g7 < v2.heap.size∨v2.heap.size+1≤g7:=by omega
  replace HC7:Hid (∀i,i < dl.length→∀j,j < Q0h.k→W7.cell? ⟨g7,f7+i * Q0h.k+j,none⟩=(Q0h.cs (dl.getD i Q0h.d))[j]?):=Q02 (fun i hi j hj=> (Q39 s7 (b:=g7) (j:=f7+i * Q0h.k+j) hg7 hg7n).trans (HC7.out i hi j hj))
  replace HXU:=Q02 (s7.box HXU.out (.inl (by omega)))
  replace HIO:=Q02 (HIO.out.step s7 (.inr (by omega)))
  replace HXT:=Q02 X7;have HT0:=Q02 (Q00 X7 0 _ rfl);have HFT:=Q02 (Q01 X7 0);clear X7
  have HP2:=Q02 (Q5v g7 f7 ct7 dl a p v (now+50) W7 (by rw [HDL.out];exact HPO.out) (by rw [HDL.out];have:=H16.out;omega) hfl (by omega) HC7.out)
  rw [HDL.out,HNN.out.2.2.2] at HP2
  obtain ⟨el2,hel2⟩:∃x,Q6j dl a p v (now+50)=x:=⟨_,rfl⟩;obtain ⟨ed2,hed2⟩:∃x,(Q1o dl a p).1=x:=⟨_,rfl⟩
  have HL2:=Q02 (show el2.length=lt.length by rw [←hel2,Qbq];exact HDL.out)
  rw [hel2] at HP2 HLX
  rw [hed2] at HP2
  clear hel2 hed2;have t9:W7.cell? ⟨v2.heap.size,0,none⟩=some (.slice (some ⟨g7,f7,none⟩) nt9 ct7):=HT0.out;have HS7:=Q02 s7;have x9_0:=s7.cellP x0 (.inl hkx);have x9_1:=s7.cellP x1 (.inl hkx);clear s7
  go_wp2_with fail
  have s7:=HS7.out;clear t9 x9_0 x9_1;replace z0:=s7.cellP z0 (.inl hkz);replace z1:=s7.cellP z1 (.inl hkz);replace z2:=s7.cellP z2 (.inl hkz);replace z3:=s7.cellP z3 (.inl hkz);replace z4:=s7.cellP z4 (.inl hkz);replace z5:=s7.cellP z5 (.inl hkz);replace z6:=s7.cellP z6 (.inl hkz);replace zz:=Kbq zz s7.size;replace x0:=s7.cellP x0 (.inl hkx);replace x1:=s7.cellP x1 (.inl hkx);replace zx:=Kbq zx s7.size;replace r0:=s7.cellP r0 (.inl hkr);replace r1:=s7.cellP r1 (.inl hkr);replace r2:=s7.cellP r2 (.inl hkr);replace r3:=s7.cellP r3 (.inl hkr);replace r4:=s7.cellP r4 (.inl hkr)
  replace r5:=s7.cellP r5 (.inl hkr);replace r6:=s7.cellP r6 (.inl hkr);replace fr0:=Stp.frozen s7 fr0 zr (.inl hkr);replace fr1:=Stp.frozen s7 fr1 zr (.inl hkr);replace fr2:=Stp.frozen s7 fr2 zr (.inl hkr);replace fr3:=Stp.frozen s7 fr3 zr (.inl hkr);replace fr4:=Stp.frozen s7 fr4 zr (.inl hkr);replace fr5:=Stp.frozen s7 fr5 zr (.inl hkr);replace fr6:=Stp.frozen s7 fr6 zr (.inl hkr);replace zr:=Kbq zr s7.size;replace u0:=s7.cellP u0 (.inl hku);replace u1:=s7.cellP u1 (.inl hku);replace u2:=s7.cellP u2 (.inl hku);replace u3:=s7.cellP u3 (.inl hku);replace u4:=s7.cellP u4 (.inl hku)
  replace u5:=s7.cellP u5 (.inl hku);replace u6:=s7.cellP u6 (.inl hku);replace fu0:=Stp.frozen s7 fu0 zu (.inl hku);replace fu1:=Stp.frozen s7 fu1 zu (.inl hku);replace fu2:=Stp.frozen s7 fu2 zu (.inl hku);replace fu3:=Stp.frozen s7 fu3 zu (.inl hku);replace fu4:=Stp.frozen s7 fu4 zu (.inl hku);replace fu5:=Stp.frozen s7 fu5 zu (.inl hku);replace fu6:=Stp.frozen s7 fu6 zu (.inl hku);replace zu:=Kbq zu s7.size;replace q0:=s7.cellP q0 (.inr hkq);replace q1:=s7.cellP q1 (.inr hkq);replace q2:=s7.cellP q2 (.inr hkq);replace q3:=s7.cellP q3 (.inr hkq);replace q4:=s7.cellP q4 (.inr hkq)
  replace zq:=Kbq zq s7.size;replace zt:=Kbq zt s7.size
  replace HB:=Q02 (HB.out.trans (s7.below (by omega) HB.out.size))
  clear t0 ft0;have t0:W7.cell? ⟨v2.heap.size,0,none⟩=some (.slice (some ⟨g7,f7,none⟩) nt9 ct7):=HT0.out;have ft0:=HFT.out;clear HT0 HFT s7 HS7
  refine (HP2.out).mono ?_
  rintro e v5 ⟨g6,f6,ct6,rfl,hg6,hcell6,hb,hor6⟩
  have HC6:=Q02 hcell6;have hs8:=hb.size
  replace HXU:=Q02 ((hb.block _ (by omega)).trans HXU.out)
  replace HXT:=Q02 ((hb.block _ (by omega)).trans HXT.out)
  replace HIO:=Q02 (HIO.out.step (Stp.of (lo:=0) (hi:=0) hb) (.inl (Kcq _)));clear HP2 hcell6 HC7;replace z0:=bC hb z0 zz;replace z1:=bC hb z1 zz;replace z2:=bC hb z2 zz;replace z3:=bC hb z3 zz;replace z4:=bC hb z4 zz;replace z5:=bC hb z5 zz;replace z6:=bC hb z6 zz;replace zz:=Kbq zz hb.size;replace x0:=bC hb x0 zx;replace x1:=bC hb x1 zx;replace zx:=Kbq zx hb.size;replace r0:=bC hb r0 zr;replace r1:=bC hb r1 zr;replace r2:=bC hb r2 zr;replace r3:=bC hb r3 zr;replace r4:=bC hb r4 zr;replace r5:=bC hb r5 zr;replace r6:=bC hb r6 zr;replace fr0:=bF hb fr0 zr;replace fr1:=bF hb fr1 zr
  replace fr2:=bF hb fr2 zr;replace fr3:=bF hb fr3 zr;replace fr4:=bF hb fr4 zr;replace fr5:=bF hb fr5 zr;replace fr6:=bF hb fr6 zr;replace zr:=Kbq zr hb.size;replace u0:=bC hb u0 zu;replace u1:=bC hb u1 zu;replace u2:=bC hb u2 zu;replace u3:=bC hb u3 zu;replace u4:=bC hb u4 zu;replace u5:=bC hb u5 zu;replace u6:=bC hb u6 zu;replace fu0:=bF hb fu0 zu;replace fu1:=bF hb fu1 zu;replace fu2:=bF hb fu2 zu;replace fu3:=bF hb fu3 zu;replace fu4:=bF hb fu4 zu;replace fu5:=bF hb fu5 zu;replace fu6:=bF hb fu6 zu;replace zu:=Kbq zu hb.size;replace t0:=bC hb t0 zt;replace ft0:=bF hb ft0 zt
  replace zt:=Kbq zt hb.size;replace q0:=bC hb q0 zq;replace q1:=bC hb q1 zq;replace q2:=bC hb q2 zq;replace q3:=bC hb q3 zq;replace q4:=bC hb q4 zq;replace zq:=Kbq zq hb.size;replace HB:=Q02 (HB.out.trans (hb.mono HB.out.size));clear hb;obtain ⟨W8,hW8⟩:∃W,v5.setCell ⟨v2.heap.size,0,none⟩ (.slice (some ⟨g6,f6,none⟩) nt9 ct6)=W:=⟨_,rfl⟩
  have s8:Stp v2.heap.size (v2.heap.size+1) v5 W8:=by rw [←hW8];exact Q0t v5 v2.heap.size 0 _
  have X8:W8.heap[v2.heap.size]? =some (.cells #[.slice (some ⟨g6,f6,none⟩) nt9 ct6] 32 (0,0)):=by rw [←hW8];exact Q06 HXT.out 0 _
  have hz8:=s8.size
  have hg6n:g6 < v2.heap.size∨v2.heap.size+1≤g6:=by omega
  replace HC6:Hid (∀i,i < el2.length→∀j,j < Q0h.k→W8.cell? ⟨g6,f6+i * Q0h.k+j,none⟩=(Q0h.cs (el2.getD i Q0h.d))[j]?):=Q02 (fun i hi j hj=> (Q39 s8 (b:=g6) (j:=f6+i * Q0h.k+j) hg6 hg6n).trans (HC6.out i hi j hj))
  replace HXU:=Q02 (s8.box HXU.out (.inl (by omega)))
  replace HIO:=Q02 (HIO.out.step s8 (.inr (by omega)))
  have t8:=Q00 X8 0 _ rfl;have ft8:=Q01 X8 0;clear X8 HXT;have u8_0:=s8.cellP u0 (.inl hku);have u8_1:=s8.cellP u1 (.inl hku);have u8_2:=s8.cellP u2 (.inl hku);have u8_3:=s8.cellP u3 (.inl hku);have u8_4:=s8.cellP u4 (.inl hku);have u8_5:=s8.cellP u5 (.inl hku);have u8_6:=s8.cellP u6 (.inl hku);have fu8_0:=Stp.frozen s8 fu0 zu (.inl hku);have fu8_1:=Stp.frozen s8 fu1 zu (.inl hku);have fu8_2:=Stp.frozen s8 fu2 zu (.inl hku);have fu8_3:=Stp.frozen s8 fu3 zu (.inl hku);have fu8_4:=Stp.frozen s8 fu4 zu (.inl hku);have fu8_5:=Stp.frozen s8 fu5 zu (.inl hku)
  have fu8_6:=Stp.frozen s8 fu6 zu (.inl hku);have r8_0:=s8.cellP r0 (.inl hkr);have r8_1:=s8.cellP r1 (.inl hkr);have r8_2:=s8.cellP r2 (.inl hkr);have r8_3:=s8.cellP r3 (.inl hkr);have r8_4:=s8.cellP r4 (.inl hkr);have r8_5:=s8.cellP r5 (.inl hkr);have r8_6:=s8.cellP r6 (.inl hkr);have fr8_0:=Stp.frozen s8 fr0 zr (.inl hkr);have fr8_1:=Stp.frozen s8 fr1 zr (.inl hkr);have fr8_2:=Stp.frozen s8 fr2 zr (.inl hkr);have fr8_3:=Stp.frozen s8 fr3 zr (.inl hkr);have fr8_4:=Stp.frozen s8 fr4 zr (.inl hkr);have fr8_5:=Stp.frozen s8 fr5 zr (.inl hkr);have fr8_6:=Stp.frozen s8 fr6 zr (.inl hkr)
  have HB8:=Q02 (HB.out.trans (s8.below (by omega) HB.out.size))
  have zr8:=Kbq zr s8.size;clear s8
  have hgn:g6 < v1.heap.size∨v1.heap.size+1≤g6:=by omega
  have hgr:g6 < w.heap.size+1+1∨w.heap.size+1+1+1≤g6:=by omega
  have X5:(W8.setCell ⟨v1.heap.size,6,none⟩ (.slice (some ⟨g6,f6,none⟩) nt9 ct6)).heap[v1.heap.size]? =some (.cells #[.int .i64 kj,.slice o9 nj9 c9,.int .i64 sj,.int .i64 kp,.slice ob9 np9 cb9,.slice oR9 nr9 cR9,.slice (some ⟨g6,f6,none⟩) nt9 ct6] 34 (0,0)):=Q06 HXU.out 6 _;have s5:Stp v1.heap.size (v1.heap.size+1) W8 (W8.setCell ⟨v1.heap.size,6,none⟩ (.slice (some ⟨g6,f6,none⟩) nt9 ct6)):=Q0t W8 v1.heap.size 6 _;have y0:(W8.setCell ⟨v1.heap.size,6,none⟩ (.slice (some ⟨g6,f6,none⟩) nt9 ct6)).cell? ⟨v1.heap.size,0,none⟩=some (.int .i64 kj):=Q00 X5 0 _ rfl
  have y1:(W8.setCell ⟨v1.heap.size,6,none⟩ (.slice (some ⟨g6,f6,none⟩) nt9 ct6)).cell? ⟨v1.heap.size,1,none⟩=some (.slice o9 nj9 c9):=Q00 X5 1 _ rfl;have y2:(W8.setCell ⟨v1.heap.size,6,none⟩ (.slice (some ⟨g6,f6,none⟩) nt9 ct6)).cell? ⟨v1.heap.size,2,none⟩=some (.int .i64 sj):=Q00 X5 2 _ rfl;have y3:(W8.setCell ⟨v1.heap.size,6,none⟩ (.slice (some ⟨g6,f6,none⟩) nt9 ct6)).cell? ⟨v1.heap.size,3,none⟩=some (.int .i64 kp):=Q00 X5 3 _ rfl;have y4:(W8.setCell ⟨v1.heap.size,6,none⟩ (.slice (some ⟨g6,f6,none⟩) nt9 ct6)).cell? ⟨v1.heap.size,4,none⟩=some (.slice ob9 np9 cb9):=Q00 X5 4 _ rfl
  have y5:(W8.setCell ⟨v1.heap.size,6,none⟩ (.slice (some ⟨g6,f6,none⟩) nt9 ct6)).cell? ⟨v1.heap.size,5,none⟩=some (.slice oR9 nr9 cR9):=Q00 X5 5 _ rfl;have y6:(W8.setCell ⟨v1.heap.size,6,none⟩ (.slice (some ⟨g6,f6,none⟩) nt9 ct6)).cell? ⟨v1.heap.size,6,none⟩=some (.slice (some ⟨g6,f6,none⟩) nt9 ct6):=Q00 X5 6 _ rfl;have r5_0:=s5.cellP r8_0 (.inl hlr);have r5_1:=s5.cellP r8_1 (.inl hlr);have r5_2:=s5.cellP r8_2 (.inl hlr);have r5_3:=s5.cellP r8_3 (.inl hlr);have r5_4:=s5.cellP r8_4 (.inl hlr);have r5_5:=s5.cellP r8_5 (.inl hlr);have r5_6:=s5.cellP r8_6 (.inl hlr)
  have fr5_0:=Stp.frozen s5 fr8_0 (by omega) (.inl hlr)
  have fr5_1:=Stp.frozen s5 fr8_1 (by omega) (.inl hlr)
  have fr5_2:=Stp.frozen s5 fr8_2 (by omega) (.inl hlr)
  have fr5_3:=Stp.frozen s5 fr8_3 (by omega) (.inl hlr)
  have fr5_4:=Stp.frozen s5 fr8_4 (by omega) (.inl hlr)
  have fr5_5:=Stp.frozen s5 fr8_5 (by omega) (.inl hlr)
  have fr5_6:=Stp.frozen s5 fr8_6 (by omega) (.inl hlr)
  have HFI:Hid (OrBr w.heap.size (Q1Q (W8.setCell ⟨v1.heap.size,6,none⟩ (.slice (some ⟨g6,f6,none⟩) nt9 ct6)) (w.heap.size+1+1) (.int .i64 kj) (.slice o9 nj9 c9) (.int .i64 sj) (.int .i64 kp) (.slice ob9 np9 cb9) (.slice oR9 nr9 cR9) (.slice (some ⟨g6,f6,none⟩) nt9 ct6)).heap.size (Q1Q (W8.setCell ⟨v1.heap.size,6,none⟩ (.slice (some ⟨g6,f6,none⟩) nt9 ct6)) (w.heap.size+1+1) (.int .i64 kj) (.slice o9 nj9 c9) (.int .i64 sj) (.int .i64 kp) (.slice ob9 np9 cb9) (.slice oR9 nr9 cR9) (.slice (some ⟨g6,f6,none⟩) nt9 ct6)) (Q1d kj (.slice o9 nj9 c9) sj kp (.slice ob9 np9 cb9) (.slice oR9 nr9 cR9) (.slice (some ⟨g6,f6,none⟩) nt9 ct6)) (Q6P ⟨⟨kj,lj,sj⟩,⟨kp,lb,lr⟩,lt⟩ now a p v)∧Below w.heap.size w (Q1Q (W8.setCell ⟨v1.heap.size,6,none⟩ (.slice (some ⟨g6,f6,none⟩) nt9 ct6)) (w.heap.size+1+1) (.int .i64 kj) (.slice o9 nj9 c9) (.int .i64 sj) (.int .i64 kp) (.slice ob9 np9 cb9) (.slice oR9 nr9 cR9) (.slice (some ⟨g6,f6,none⟩) nt9 ct6))):=by
   have sR:=Q1a (W8.setCell ⟨v1.heap.size,6,none⟩ (.slice (some ⟨g6,f6,none⟩) nt9 ct6)) (w.heap.size+1+1) (.int .i64 kj) (.slice o9 nj9 c9) (.int .i64 sj) (.int .i64 kp) (.slice ob9 np9 cb9) (.slice oR9 nr9 cR9) (.slice (some ⟨g6,f6,none⟩) nt9 ct6)
   have hszR:(Q1Q (W8.setCell ⟨v1.heap.size,6,none⟩ (.slice (some ⟨g6,f6,none⟩) nt9 ct6)) (w.heap.size+1+1) (.int .i64 kj) (.slice o9 nj9 c9) (.int .i64 sj) (.int .i64 kp) (.slice ob9 np9 cb9) (.slice oR9 nr9 cR9) (.slice (some ⟨g6,f6,none⟩) nt9 ct6)).heap.size=(W8.setCell ⟨v1.heap.size,6,none⟩ (.slice (some ⟨g6,f6,none⟩) nt9 ct6)).heap.size:=Q0F _ _ _ _ _ _ _ _ _;have hz5:=s5.size
   have hO9:=(HIO.out.step s5 (.inr (Kaq _))).step sR (.inl (by omega))
   have hcl:∀i,i < el2.length→∀j,j < Q0h.k→(Q1Q (W8.setCell ⟨v1.heap.size,6,none⟩ (.slice (some ⟨g6,f6,none⟩) nt9 ct6)) (w.heap.size+1+1) (.int .i64 kj) (.slice o9 nj9 c9) (.int .i64 sj) (.int .i64 kp) (.slice ob9 np9 cb9) (.slice oR9 nr9 cR9) (.slice (some ⟨g6,f6,none⟩) nt9 ct6)).cell? ⟨g6,f6+i * Q0h.k+j,none⟩=(Q0h.cs (el2.getD i Q0h.d))[j]? :=fun i hi j hj=> (Q39 sR (b:=g6) (j:=f6+i * Q0h.k+j) (by omega) hgr).trans ((Q39 s5 (b:=g6) (j:=f6+i * Q0h.k+j) (by omega) hgn).trans (HC6.out i hi j hj))
   exact ⟨HFN.out _ _ _ _ _ HL2.out HLX.out hO9 hcl (by rw [hszR];omega) (by rw [hszR];omega) (by omega),Q0z (HB8.out.trans (s5.below (by omega) HB8.out.size)) (by omega) _ _ _ _ _ _ _⟩
  clear HFN X5 s5 HIO HC6 HXU
  go_wp2
  refine bodyPost_ret (v:=Q1d kj (.slice o9 nj9 c9) sj kp (.slice ob9 np9 cb9) (.slice oR9 nr9 cR9) (.slice (some ⟨g6,f6,none⟩) nt9 ct6)) (by simp [results,Tryz.results129,go_sem,r0,r1,r2,r3,r4,r5,r6,r5_0,r5_1,r5_2,r5_3,r5_4,r5_5,r5_6]) rfl ⟨_,rfl,HFI.out.1,HFI.out.2⟩
theorem Q8Y (l:List Sl):∀k,k≤l.length→(Q4u l k=sl0∧∀j,j < k→(l.getD j sl0).u=false)∨∃j,j < k∧Q4u l k=l.getD j sl0∧(l.getD j sl0).u=true
 |0,_=> .inl ⟨rfl,fun j hj=> absurd hj (Nat.not_lt_zero _)⟩
 |k+1,hk=> by
  have ih:=Q8Y l k (by omega)
  rw [Q6C (by omega)]
  cases hu:(l.getD k sl0).u with
  |false=>
   rw [Q5n hu]
   rcases ih with ⟨h1,h2⟩|⟨j,h1,h2,h3⟩
   ·refine .inl ⟨h1,fun j hj=> ?_⟩
    by_cases e:j=k
    ·subst e;exact hu
    ·exact h2 j (by omega)
   ·exact .inr ⟨j,by omega,h2,h3⟩
  |true=>
   rcases ih with ⟨h1,h2⟩|⟨j,h1,h2,h3⟩
   ·rw [h1,Q4m hu rfl];exact .inr ⟨k,by omega,rfl,hu⟩
   ·rw [h2]
    by_cases ht:(l.getD k sl0).t < (l.getD j sl0).t
    ·rw [Q4Y hu ht];exact .inr ⟨k,by omega,rfl,hu⟩
    ·rw [Q5a h3 ht];exact .inr ⟨j,by omega,rfl,h3⟩
theorem Qeg {l:List Sl} {a p:Int} (hok:Q0l l=true) (h:(Q1o l a p).1 < 0):Q0f (Q5e l).a (Q5e l).p=true:=by
 have hn:=(Q0i.1 hok).1
 have hh:=Q1E (show 0 < l.length by omega) a p
 have hu:(l.getD (Q11 l.length a p) sl0).u=true:=by
  cases hu:(l.getD (Q11 l.length a p) sl0).u with
  |true=> rfl
  |false=>
   obtain ⟨n,hl⟩:∃n,l.length=n+1:=⟨l.length - 1,by omega⟩
   have e:Q1o l a p=((Q11 l.length a p:Int),false):=by
    unfold Q1o
    have:=Q4c (a:=a) (p:=p) (f:=n) hu
    rw [←hl] at this
    exact this
   rw [e] at h
   dsimp only at h
   omega
 rcases Q8Y l l.length (Kaq _) with ⟨_,h2⟩|⟨j,h1,h2,h3⟩
 ·rw [h2 _ hh] at hu;cases hu
 ·show Q0f (Q4u l l.length).a (Q4u l l.length).p=true
  rw [h2]
  exact Q4b hok j h1 h3
end Go.Proofs.YtpneolgdghbinaaGreat
