/- Several texts in one: SPw2, SPn, SOwn4, SPNew, SBBox, SRepl, SRepl2, RcP, BalIn. -/
import Derived.Great.BuildSlice
import Derived.Test.YtpneolgdghbinaaGreatQSends27
namespace Go.Proofs.YtpneolgdghbinaaGreat
open Go.ChangeShapes Go.WideShapes Go.ChangeAt Go.RowKit Go.Joins
set_option linter.unusedVariables false
set_option linter.unusedSimpArgs false
set_option maxRecDepth 100000
set_option maxHeartbeats 40000000
def Q1T:Lay Pt:=⟨24,ptL,ptZ,fun _=> rfl⟩
theorem Qge:(Tryz.prog.info? 188).map (fun i=> (i.zero,i.size,i.bytes))=some (some (.agg #[.bool false,.int .i64 0,.int .i64 0,.bool false,.int .i64 0,.int .i64 0,.bool false,.int .i64 0,.int .i64 0,.bool false,.int .i64 0,.int .i64 0,.bool false,.int .i64 0,.int .i64 0,.bool false,.int .i64 0,.int .i64 0,.bool false,.int .i64 0,.int .i64 0,.bool false,.int .i64 0,.int .i64 0]),24,192):=by kernel_rfl
theorem Qgi (f:Pt):∀u∈Q1T.cs f,u.oneCell'=true:=fun v hv=> by
 have hv':v∈ptL f:=hv
 unfold ptL at hv'
 simp only [List.mem_flatMap,Qfc,List.mem_cons,List.not_mem_nil,or_false] at hv'
 obtain ⟨a,_,rfl|rfl|rfl⟩:=hv' <;> rfl
theorem Qhi:AppOk Q1T 125 188:=⟨Tryz.underlying125,⟨_,_,Qge,rfl,by decide⟩,by decide,Qgi⟩
theorem Qh0 (f:Pt) (s:Nat) (z:Value) (hs:s=24) (hz:z.cells.size=24):Instr.fill (fun i=> some (i * s,s)) ((Array.range (1 * s)).map (z.cells[· % z.cells.size]!)) [(0,ptv f)]=some (ptA f):=by
 subst hs
 have h:=Great.fill_whole (s:=24) (by decide) [ptv f] ((Array.range (1 * 24)).map (z.cells[· % z.cells.size]!)) (fun v hv=> by simp at hv;subst hv;rfl) (by simp)
 simpa [ptv,Value.cells] using h
theorem Q1W {ops:Array Oper} {rest:List Oper} {o:Oper} {a:Act} {w:World} {Q:Exit→Act→World→Prop} (hgd:o.guard=none) (x:Operand) (ho:o.op=.buildSlice 125 1 #[(0,x)]) (f:Pt) (hx:a.eval x=ptv f)
  (h:wpList Tryz.prog ops Q rest (a.put o.dst (.slice (some ⟨w.heap.size,0,none⟩) 1 1)) (w.alloc (.cells (ptA f) 188))):wpList Tryz.prog ops Q (o::rest) a w:=by
 have hi:=Qge
 cases hq:Tryz.prog.info? 188 with
 |none=> simp [hq] at hi
 |some i=>
  simp [hq] at hi
  refine wpList_buildSlice hgd _ 188 1 _ ho (ptA f) i _ Tryz.underlying125 hq hi.1 (by rw [hi.2.1];decide) (by rw [hi.2.1];decide) ?_ h
  simp only [List.map_toArray,List.map_cons,List.map_nil,hx]
  exact Qh0 f _ _ hi.2.1 rfl
theorem Q57 (w:World) (f:Pt):ownL Q1T 188 (w.alloc (.cells (ptA f) 188)) w.heap.size (.slice (some ⟨w.heap.size,0,none⟩) 1 1) [f]:=
 ⟨by simp [Q1T,Qaa],.inr ⟨w.heap.size,1,ptA f,rfl,Kaq _,heap_alloc_new w _,by simp,by unfold maxLen;omega,by rw [Qbj];rfl,by simp [Q1T,ptA];exact List.take_of_length_le (by rw [Qaa];exact Kaq _)⟩⟩
theorem Q0u {C:Nat} {w W:World} {B:Nat} (h:Below C w W) (hB:C≤B) (x y z:Value):Below C w (setP W B x y z):=((h.setCell (p:=⟨B,0,none⟩) hB _).setCell (p:=⟨B,1,none⟩) hB _).setCell (p:=⟨B,2,none⟩) hB _
theorem Q6t {C:Nat} {w:World} {o:Option Addr} {fs:List Pt} (h:RdL Q1T C w o fs):RdL Q1T C w o (fs.take 2):=by
 rcases h with h|⟨b,off,ho,hb,r⟩
 ·left;rw [h];rfl
 ·refine .inr ⟨b,off,ho,hb,fun i hi j hj=> ?_⟩
  have h1:i < 2:=by simp at hi;omega
  have h2:i < fs.length:=by simp at hi;omega
  have e:(fs.take 2).getD i Q1T.d=fs.getD i Q1T.d:=by simp [List.getD_eq_getElem?_getD,List.getElem?_take,h1]
  rw [e];exact r i h2 j hj
abbrev Q5W (key:Int) (vb vr:Value):Value:=.agg #[.int .i64 key,vb,vr]
theorem Qhr (key:Int) (ob:Option Addr) (nb cb:Nat) (oR:Option Addr) (cR:Nat) (o:Option Addr) (cap:Nat) (l:List Bk) (w:World) (hG:RdL Q1T w.heap.size w oR ([]:List Pt)) (hc:0≤cR) (hn:oR=none→cR=0) (hR:RdK w.heap.size w o l) (hlen:l.length≤1048576) (hk:Q1C key=true) (hl:Q0a l=true):
  Calls Tryz.prog 68 #[Q5W key (.slice ob nb cb) (.slice oR 0 cR),.slice o l.length cap] w fun e w'=> ∃o2 c2,e=.returned (Q5W key (.slice o l.length cap) (.slice o2 ((Q2r key l::([]:List Pt).take 2).length) c2))∧ownL Q1T 188 w' w.heap.size (.slice o2 ((Q2r key l::([]:List Pt).take 2).length) c2) (Q2r key l::([]:List Pt).take 2)∧Below w.heap.size w w':=by
 obtain ⟨W0,hW0⟩:∃W,((w.alloc (.cells #[.int .i64 key,.slice ob nb cb,.slice oR 0 cR] 127)).alloc (.cells #[.int .i64 0,.slice none 0 0,.slice none 0 0] 127))=W:=⟨_,rfl⟩
 have hb_W0:Below w.heap.size w W0:=by rw [←hW0];exact (((Below.refl _ _).alloc (Kaq _) _).alloc (by simp <;> omega) _)
 have HB:=Q02 hb_W0;clear hb_W0
 have zz:w.heap.size < W0.heap.size:=by rw [←hW0];simp <;> omega
 obtain ⟨z0,z1,z2⟩:=alc3v0v2 hW0
 have zr:w.heap.size+1 < W0.heap.size:=by rw [←hW0];simp
 obtain ⟨r0,r1,r2⟩:=alc3v1v2 hW0;obtain ⟨fr0,fr1,fr2⟩:=alf3v1v2 hW0;have hzr:=zr;have HT:=Q02 (Q1u key o cap l W0 ((hR.kept HB.out (Kaq _)).le HB.out.size) hlen hk hl);have HG:=Q02 (show RdL Q1T w.heap.size w oR ([]:List Pt) from Q6t hG);clear hR hG hk hl;obtain ⟨f,hf⟩:∃f,Q2r key l=f:=⟨_,rfl⟩
 rw [hf] at HT ⊢
 clear hf
 go_enter Tryz.func68,Tryz.ntmps68
 go_wp2_with fail
 refine (HT.out).mono ?_
 rintro e v1 ⟨rfl,hb⟩
 replace z0:=bC hb z0 zz;replace z1:=bC hb z1 zz;replace z2:=bC hb z2 zz;replace zz:=Kbq zz hb.size;replace r0:=bC hb r0 zr;replace r1:=bC hb r1 zr;replace r2:=bC hb r2 zr;replace fr0:=bF hb fr0 zr;replace fr1:=bF hb fr1 zr;replace fr2:=bF hb fr2 zr;replace zr:=Kbq zr hb.size;replace HB:=Q02 (HB.out.trans (hb.mono HB.out.size));clear hb;have hsz:=HB.out.size;obtain ⟨W2,hW2⟩:∃W,v1.alloc (.cells (ptA f) 188)=W:=⟨_,rfl⟩
 have hb_W2:Below v1.heap.size v1 W2:=by rw [←hW2];exact (Below.refl _ _).alloc (Kaq _) _
 have HO:=Q02 (show ownL Q1T 188 W2 v1.heap.size (.slice (some ⟨v1.heap.size,0,none⟩) 1 1) [f] by rw [←hW2];exact Q57 v1 f)
 have hv2:v1.heap.size≤W2.heap.size:=hb_W2.size;have hzv:=zr;replace z0:=bC hb_W2 z0 zz;replace z1:=bC hb_W2 z1 zz;replace z2:=bC hb_W2 z2 zz;replace zz:=Kbq zz hb_W2.size;replace r0:=bC hb_W2 r0 zr;replace r1:=bC hb_W2 r1 zr;replace r2:=bC hb_W2 r2 zr;replace fr0:=bF hb_W2 fr0 zr;replace fr1:=bF hb_W2 fr1 zr;replace fr2:=bF hb_W2 fr2 zr;replace zr:=Kbq zr hb_W2.size;replace HB:=Q02 (HB.out.trans (hb_W2.mono HB.out.size));clear hb_W2
 go_wp2_with (first|(refine Q1W rfl (.tmp 9) rfl f rfl ?_;rw [hW2])|(at_builtin;refine Q07 Qhi rfl (.tmp 11) (.tmp 18) rfl v1.heap.size _ [f] rfl HO.out oR cR W2.heap.size ([]:List Pt) 0 rfl rfl hn ((HG.out.kept HB.out (Kaq _)).le HB.out.size) (by simp) hv2 ?_))
 intro v6 w6 ho6 hg6 _
 obtain ⟨o6,c6,e6,_⟩:=ownL.open (L:=Q1T) ho6;subst e6
 have hb6:Below v1.heap.size W2 w6:=(Below.refl _ _).mono hv2|>.grown hg6 hv2 (fun k h=> (HO.out.lt k h).1)
 have HO6:=Q02 ho6;clear ho6 hg6 HO
 replace z0:=bC hb6 z0 (show _ < _ by omega)
 replace z1:=bC hb6 z1 (show _ < _ by omega)
 replace z2:=bC hb6 z2 (show _ < _ by omega)
 replace r0:=bC hb6 r0 (show _ < _ by omega)
 replace fr0:=bF hb6 fr0 (show _ < _ by omega)
 replace r1:=bC hb6 r1 (show _ < _ by omega)
 replace fr1:=bF hb6 fr1 (show _ < _ by omega)
 replace r2:=bC hb6 r2 (show _ < _ by omega)
 replace fr2:=bF hb6 fr2 (show _ < _ by omega)
 have HB6:=Q02 (HB.out.trans (hb6.mono hsz));clear hb6 HB
 go_wp2
 refine bodyPost_ret (v:=Q5W key (.slice o l.length cap) (.slice o6 ([f]++([]:List Pt)).length c6)) (by simp [results,Tryz.results68,go_sem,r0,r1,r2]) rfl ⟨o6,c6,rfl, ?_,Q0u HB6.out (Nat.le_succ _) _ _ _⟩
 exact Q04 (Q0k (Q0k (Q0k HO6.out hzv 0 _) hzv 1 _) hzv 2 _) hsz
theorem Qhb (key:Int) (ob:Option Addr) (nb cb:Nat) (oR:Option Addr) (cR:Nat) (o:Option Addr) (cap:Nat) (l:List Bk) (w:World) (a:Pt) (hG:RdL Q1T w.heap.size w oR ([a]:List Pt)) (hc:1≤cR) (hn:oR=none→cR=0) (hR:RdK w.heap.size w o l) (hlen:l.length≤1048576) (hk:Q1C key=true) (hl:Q0a l=true):
  Calls Tryz.prog 68 #[Q5W key (.slice ob nb cb) (.slice oR 1 cR),.slice o l.length cap] w fun e w'=> ∃o2 c2,e=.returned (Q5W key (.slice o l.length cap) (.slice o2 ((Q2r key l::([a]:List Pt).take 2).length) c2))∧ownL Q1T 188 w' w.heap.size (.slice o2 ((Q2r key l::([a]:List Pt).take 2).length) c2) (Q2r key l::([a]:List Pt).take 2)∧Below w.heap.size w w':=by
 obtain ⟨W0,hW0⟩:∃W,((w.alloc (.cells #[.int .i64 key,.slice ob nb cb,.slice oR 1 cR] 127)).alloc (.cells #[.int .i64 0,.slice none 0 0,.slice none 0 0] 127))=W:=⟨_,rfl⟩
 have hb_W0:Below w.heap.size w W0:=by rw [←hW0];exact (((Below.refl _ _).alloc (Kaq _) _).alloc (by simp <;> omega) _)
 have HB:=Q02 hb_W0;clear hb_W0
 have zz:w.heap.size < W0.heap.size:=by rw [←hW0];simp <;> omega
 obtain ⟨z0,z1,z2⟩:=alc3v0v2 hW0
 have zr:w.heap.size+1 < W0.heap.size:=by rw [←hW0];simp
 obtain ⟨r0,r1,r2⟩:=alc3v1v2 hW0;obtain ⟨fr0,fr1,fr2⟩:=alf3v1v2 hW0;have hzr:=zr;have HT:=Q02 (Q1u key o cap l W0 ((hR.kept HB.out (Kaq _)).le HB.out.size) hlen hk hl);have HG:=Q02 (show RdL Q1T w.heap.size w oR ([a]:List Pt) from Q6t hG);clear hR hG hk hl;obtain ⟨f,hf⟩:∃f,Q2r key l=f:=⟨_,rfl⟩
 rw [hf] at HT ⊢
 clear hf
 go_enter Tryz.func68,Tryz.ntmps68
 go_wp2_with fail
 refine (HT.out).mono ?_
 rintro e v1 ⟨rfl,hb⟩
 replace z0:=bC hb z0 zz;replace z1:=bC hb z1 zz;replace z2:=bC hb z2 zz;replace zz:=Kbq zz hb.size;replace r0:=bC hb r0 zr;replace r1:=bC hb r1 zr;replace r2:=bC hb r2 zr;replace fr0:=bF hb fr0 zr;replace fr1:=bF hb fr1 zr;replace fr2:=bF hb fr2 zr;replace zr:=Kbq zr hb.size;replace HB:=Q02 (HB.out.trans (hb.mono HB.out.size));clear hb;have hsz:=HB.out.size;obtain ⟨W2,hW2⟩:∃W,v1.alloc (.cells (ptA f) 188)=W:=⟨_,rfl⟩
 have hb_W2:Below v1.heap.size v1 W2:=by rw [←hW2];exact (Below.refl _ _).alloc (Kaq _) _
 have HO:=Q02 (show ownL Q1T 188 W2 v1.heap.size (.slice (some ⟨v1.heap.size,0,none⟩) 1 1) [f] by rw [←hW2];exact Q57 v1 f)
 have hv2:v1.heap.size≤W2.heap.size:=hb_W2.size;have hzv:=zr;replace z0:=bC hb_W2 z0 zz;replace z1:=bC hb_W2 z1 zz;replace z2:=bC hb_W2 z2 zz;replace zz:=Kbq zz hb_W2.size;replace r0:=bC hb_W2 r0 zr;replace r1:=bC hb_W2 r1 zr;replace r2:=bC hb_W2 r2 zr;replace fr0:=bF hb_W2 fr0 zr;replace fr1:=bF hb_W2 fr1 zr;replace fr2:=bF hb_W2 fr2 zr;replace zr:=Kbq zr hb_W2.size;replace HB:=Q02 (HB.out.trans (hb_W2.mono HB.out.size));clear hb_W2
 go_wp2_with (first|(refine Q1W rfl (.tmp 9) rfl f rfl ?_;rw [hW2])|(at_builtin;refine Q07 Qhi rfl (.tmp 11) (.tmp 18) rfl v1.heap.size _ [f] rfl HO.out oR cR W2.heap.size ([a]:List Pt) 1 rfl rfl hn ((HG.out.kept HB.out (Kaq _)).le HB.out.size) (by simp) hv2 ?_))
 intro v6 w6 ho6 hg6 _
 obtain ⟨o6,c6,e6,_⟩:=ownL.open (L:=Q1T) ho6;subst e6
 have hb6:Below v1.heap.size W2 w6:=(Below.refl _ _).mono hv2|>.grown hg6 hv2 (fun k h=> (HO.out.lt k h).1)
 have HO6:=Q02 ho6;clear ho6 hg6 HO
 replace z0:=bC hb6 z0 (show _ < _ by omega)
 replace z1:=bC hb6 z1 (show _ < _ by omega)
 replace z2:=bC hb6 z2 (show _ < _ by omega)
 replace r0:=bC hb6 r0 (show _ < _ by omega)
 replace fr0:=bF hb6 fr0 (show _ < _ by omega)
 replace r1:=bC hb6 r1 (show _ < _ by omega)
 replace fr1:=bF hb6 fr1 (show _ < _ by omega)
 replace r2:=bC hb6 r2 (show _ < _ by omega)
 replace fr2:=bF hb6 fr2 (show _ < _ by omega)
 have HB6:=Q02 (HB.out.trans (hb6.mono hsz));clear hb6 HB
 go_wp2
 refine bodyPost_ret (v:=Q5W key (.slice o l.length cap) (.slice o6 ([f]++([a]:List Pt)).length c6)) (by simp [results,Tryz.results68,go_sem,r0,r1,r2]) rfl ⟨o6,c6,rfl, ?_,Q0u HB6.out (Nat.le_succ _) _ _ _⟩
 exact Q04 (Q0k (Q0k (Q0k HO6.out hzv 0 _) hzv 1 _) hzv 2 _) hsz
theorem Qhv (key:Int) (ob:Option Addr) (nb cb:Nat) (oR:Option Addr) (cR:Nat) (o:Option Addr) (cap:Nat) (l:List Bk) (w:World) (a b:Pt) (hG:RdL Q1T w.heap.size w oR ([a,b]:List Pt)) (hc:2≤cR) (hn:oR=none→cR=0) (hR:RdK w.heap.size w o l) (hlen:l.length≤1048576) (hk:Q1C key=true) (hl:Q0a l=true):
  Calls Tryz.prog 68 #[Q5W key (.slice ob nb cb) (.slice oR 2 cR),.slice o l.length cap] w fun e w'=> ∃o2 c2,e=.returned (Q5W key (.slice o l.length cap) (.slice o2 ((Q2r key l::([a,b]:List Pt).take 2).length) c2))∧ownL Q1T 188 w' w.heap.size (.slice o2 ((Q2r key l::([a,b]:List Pt).take 2).length) c2) (Q2r key l::([a,b]:List Pt).take 2)∧Below w.heap.size w w':=by
 obtain ⟨W0,hW0⟩:∃W,((w.alloc (.cells #[.int .i64 key,.slice ob nb cb,.slice oR 2 cR] 127)).alloc (.cells #[.int .i64 0,.slice none 0 0,.slice none 0 0] 127))=W:=⟨_,rfl⟩
 have hb_W0:Below w.heap.size w W0:=by rw [←hW0];exact (((Below.refl _ _).alloc (Kaq _) _).alloc (by simp <;> omega) _)
 have HB:=Q02 hb_W0;clear hb_W0
 have zz:w.heap.size < W0.heap.size:=by rw [←hW0];simp <;> omega
 obtain ⟨z0,z1,z2⟩:=alc3v0v2 hW0
 have zr:w.heap.size+1 < W0.heap.size:=by rw [←hW0];simp
 obtain ⟨r0,r1,r2⟩:=alc3v1v2 hW0;obtain ⟨fr0,fr1,fr2⟩:=alf3v1v2 hW0;have hzr:=zr;have HT:=Q02 (Q1u key o cap l W0 ((hR.kept HB.out (Kaq _)).le HB.out.size) hlen hk hl);have HG:=Q02 (show RdL Q1T w.heap.size w oR ([a,b]:List Pt) from Q6t hG);clear hR hG hk hl;obtain ⟨f,hf⟩:∃f,Q2r key l=f:=⟨_,rfl⟩
 rw [hf] at HT ⊢
 clear hf
 go_enter Tryz.func68,Tryz.ntmps68
 go_wp2_with fail
 refine (HT.out).mono ?_
 rintro e v1 ⟨rfl,hb⟩
 replace z0:=bC hb z0 zz;replace z1:=bC hb z1 zz;replace z2:=bC hb z2 zz;replace zz:=Kbq zz hb.size;replace r0:=bC hb r0 zr;replace r1:=bC hb r1 zr;replace r2:=bC hb r2 zr;replace fr0:=bF hb fr0 zr;replace fr1:=bF hb fr1 zr;replace fr2:=bF hb fr2 zr;replace zr:=Kbq zr hb.size;replace HB:=Q02 (HB.out.trans (hb.mono HB.out.size));clear hb;have hsz:=HB.out.size;obtain ⟨W2,hW2⟩:∃W,v1.alloc (.cells (ptA f) 188)=W:=⟨_,rfl⟩
 have hb_W2:Below v1.heap.size v1 W2:=by rw [←hW2];exact (Below.refl _ _).alloc (Kaq _) _
 have HO:=Q02 (show ownL Q1T 188 W2 v1.heap.size (.slice (some ⟨v1.heap.size,0,none⟩) 1 1) [f] by rw [←hW2];exact Q57 v1 f)
 have hv2:v1.heap.size≤W2.heap.size:=hb_W2.size;have hzv:=zr;replace z0:=bC hb_W2 z0 zz;replace z1:=bC hb_W2 z1 zz;replace z2:=bC hb_W2 z2 zz;replace zz:=Kbq zz hb_W2.size;replace r0:=bC hb_W2 r0 zr;replace r1:=bC hb_W2 r1 zr;replace r2:=bC hb_W2 r2 zr;replace fr0:=bF hb_W2 fr0 zr;replace fr1:=bF hb_W2 fr1 zr;replace fr2:=bF hb_W2 fr2 zr;replace zr:=Kbq zr hb_W2.size;replace HB:=Q02 (HB.out.trans (hb_W2.mono HB.out.size));clear hb_W2
 go_wp2_with (first|(refine Q1W rfl (.tmp 9) rfl f rfl ?_;rw [hW2])|(at_builtin;refine Q07 Qhi rfl (.tmp 11) (.tmp 18) rfl v1.heap.size _ [f] rfl HO.out oR cR W2.heap.size ([a,b]:List Pt) 2 rfl rfl hn ((HG.out.kept HB.out (Kaq _)).le HB.out.size) (by simp) hv2 ?_))
 intro v6 w6 ho6 hg6 _
 obtain ⟨o6,c6,e6,_⟩:=ownL.open (L:=Q1T) ho6;subst e6
 have hb6:Below v1.heap.size W2 w6:=(Below.refl _ _).mono hv2|>.grown hg6 hv2 (fun k h=> (HO.out.lt k h).1)
 have HO6:=Q02 ho6;clear ho6 hg6 HO
 replace z0:=bC hb6 z0 (show _ < _ by omega)
 replace z1:=bC hb6 z1 (show _ < _ by omega)
 replace z2:=bC hb6 z2 (show _ < _ by omega)
 replace r0:=bC hb6 r0 (show _ < _ by omega)
 replace fr0:=bF hb6 fr0 (show _ < _ by omega)
 replace r1:=bC hb6 r1 (show _ < _ by omega)
 replace fr1:=bF hb6 fr1 (show _ < _ by omega)
 replace r2:=bC hb6 r2 (show _ < _ by omega)
 replace fr2:=bF hb6 fr2 (show _ < _ by omega)
 have HB6:=Q02 (HB.out.trans (hb6.mono hsz));clear hb6 HB
 go_wp2
 refine bodyPost_ret (v:=Q5W key (.slice o l.length cap) (.slice o6 ([f]++([a,b]:List Pt)).length c6)) (by simp [results,Tryz.results68,go_sem,r0,r1,r2]) rfl ⟨o6,c6,rfl, ?_,Q0u HB6.out (Nat.le_succ _) _ _ _⟩
 exact Q04 (Q0k (Q0k (Q0k HO6.out hzv 0 _) hzv 1 _) hzv 2 _) hsz
theorem Qhh (key:Int) (ob:Option Addr) (nb cb:Nat) (oR:Option Addr) (cR:Nat) (o:Option Addr) (cap:Nat) (l:List Bk) (w:World) (a b c:Pt) (hG:RdL Q1T w.heap.size w oR ([a,b,c]:List Pt)) (hc:3≤cR) (hn:oR=none→cR=0) (hR:RdK w.heap.size w o l) (hlen:l.length≤1048576) (hk:Q1C key=true) (hl:Q0a l=true):
  Calls Tryz.prog 68 #[Q5W key (.slice ob nb cb) (.slice oR 3 cR),.slice o l.length cap] w fun e w'=> ∃o2 c2,e=.returned (Q5W key (.slice o l.length cap) (.slice o2 ((Q2r key l::([a,b,c]:List Pt).take 2).length) c2))∧ownL Q1T 188 w' w.heap.size (.slice o2 ((Q2r key l::([a,b,c]:List Pt).take 2).length) c2) (Q2r key l::([a,b,c]:List Pt).take 2)∧Below w.heap.size w w':=by
 obtain ⟨W0,hW0⟩:∃W,((w.alloc (.cells #[.int .i64 key,.slice ob nb cb,.slice oR 3 cR] 127)).alloc (.cells #[.int .i64 0,.slice none 0 0,.slice none 0 0] 127))=W:=⟨_,rfl⟩
 have hb_W0:Below w.heap.size w W0:=by rw [←hW0];exact (((Below.refl _ _).alloc (Kaq _) _).alloc (by simp <;> omega) _)
 have HB:=Q02 hb_W0;clear hb_W0
 have zz:w.heap.size < W0.heap.size:=by rw [←hW0];simp <;> omega
 obtain ⟨z0,z1,z2⟩:=alc3v0v2 hW0
 have zr:w.heap.size+1 < W0.heap.size:=by rw [←hW0];simp
 obtain ⟨r0,r1,r2⟩:=alc3v1v2 hW0;obtain ⟨fr0,fr1,fr2⟩:=alf3v1v2 hW0;have hzr:=zr;have HT:=Q02 (Q1u key o cap l W0 ((hR.kept HB.out (Kaq _)).le HB.out.size) hlen hk hl);have HG:=Q02 (show RdL Q1T w.heap.size w oR ([a,b]:List Pt) from Q6t hG);clear hR hG hk hl;obtain ⟨f,hf⟩:∃f,Q2r key l=f:=⟨_,rfl⟩
 rw [hf] at HT ⊢
 clear hf
 go_enter Tryz.func68,Tryz.ntmps68
 go_wp2_with fail
 refine (HT.out).mono ?_
 rintro e v1 ⟨rfl,hb⟩
 replace z0:=bC hb z0 zz;replace z1:=bC hb z1 zz;replace z2:=bC hb z2 zz;replace zz:=Kbq zz hb.size;replace r0:=bC hb r0 zr;replace r1:=bC hb r1 zr;replace r2:=bC hb r2 zr;replace fr0:=bF hb fr0 zr;replace fr1:=bF hb fr1 zr;replace fr2:=bF hb fr2 zr;replace zr:=Kbq zr hb.size;replace HB:=Q02 (HB.out.trans (hb.mono HB.out.size));clear hb;have hsz:=HB.out.size;obtain ⟨W2,hW2⟩:∃W,v1.alloc (.cells (ptA f) 188)=W:=⟨_,rfl⟩
 have hb_W2:Below v1.heap.size v1 W2:=by rw [←hW2];exact (Below.refl _ _).alloc (Kaq _) _
 have HO:=Q02 (show ownL Q1T 188 W2 v1.heap.size (.slice (some ⟨v1.heap.size,0,none⟩) 1 1) [f] by rw [←hW2];exact Q57 v1 f)
 have hv2:v1.heap.size≤W2.heap.size:=hb_W2.size;have hzv:=zr;replace z0:=bC hb_W2 z0 zz;replace z1:=bC hb_W2 z1 zz;replace z2:=bC hb_W2 z2 zz;replace zz:=Kbq zz hb_W2.size;replace r0:=bC hb_W2 r0 zr;replace r1:=bC hb_W2 r1 zr;replace r2:=bC hb_W2 r2 zr;replace fr0:=bF hb_W2 fr0 zr;replace fr1:=bF hb_W2 fr1 zr;replace fr2:=bF hb_W2 fr2 zr;replace zr:=Kbq zr hb_W2.size;replace HB:=Q02 (HB.out.trans (hb_W2.mono HB.out.size));clear hb_W2
 go_wp2_with (first|(refine Q1W rfl (.tmp 9) rfl f rfl ?_;rw [hW2])|(at_builtin;refine Q07 Qhi rfl (.tmp 11) (.tmp 18) rfl v1.heap.size _ [f] rfl HO.out oR cR W2.heap.size ([a,b]:List Pt) 2 rfl rfl hn ((HG.out.kept HB.out (Kaq _)).le HB.out.size) (by simp) hv2 ?_))
 intro v6 w6 ho6 hg6 _
 obtain ⟨o6,c6,e6,_⟩:=ownL.open (L:=Q1T) ho6;subst e6
 have hb6:Below v1.heap.size W2 w6:=(Below.refl _ _).mono hv2|>.grown hg6 hv2 (fun k h=> (HO.out.lt k h).1)
 have HO6:=Q02 ho6;clear ho6 hg6 HO
 replace z0:=bC hb6 z0 (show _ < _ by omega)
 replace z1:=bC hb6 z1 (show _ < _ by omega)
 replace z2:=bC hb6 z2 (show _ < _ by omega)
 replace r0:=bC hb6 r0 (show _ < _ by omega)
 replace fr0:=bF hb6 fr0 (show _ < _ by omega)
 replace r1:=bC hb6 r1 (show _ < _ by omega)
 replace fr1:=bF hb6 fr1 (show _ < _ by omega)
 replace r2:=bC hb6 r2 (show _ < _ by omega)
 replace fr2:=bF hb6 fr2 (show _ < _ by omega)
 have HB6:=Q02 (HB.out.trans (hb6.mono hsz));clear hb6 HB
 go_wp2
 refine bodyPost_ret (v:=Q5W key (.slice o l.length cap) (.slice o6 ([f]++([a,b]:List Pt)).length c6)) (by simp [results,Tryz.results68,go_sem,r0,r1,r2]) rfl ⟨o6,c6,rfl, ?_,Q0u HB6.out (Nat.le_succ _) _ _ _⟩
 exact Q04 (Q0k (Q0k (Q0k HO6.out hzv 0 _) hzv 1 _) hzv 2 _) hsz
theorem Q8C (key:Int) (ob:Option Addr) (nb cb:Nat) (oR:Option Addr) (cR:Nat) (o:Option Addr) (cap:Nat) (l:List Bk) (w:World) (fs:List Pt) (hf3:fs.length≤3) (hG:RdL Q1T w.heap.size w oR fs) (hc:fs.length≤cR) (hn:oR=none→cR=0) (hR:RdK w.heap.size w o l) (hlen:l.length≤1048576) (hk:Q1C key=true) (hl:Q0a l=true):
  Calls Tryz.prog 68 #[Q5W key (.slice ob nb cb) (.slice oR fs.length cR),.slice o l.length cap] w fun e w'=> ∃o2 c2,e=.returned (Q5W key (.slice o l.length cap) (.slice o2 ((Q2r key l::fs.take 2).length) c2))∧ownL Q1T 188 w' w.heap.size (.slice o2 ((Q2r key l::fs.take 2).length) c2) (Q2r key l::fs.take 2)∧Below w.heap.size w w':=by
 match fs,hf3 with
 |[],_=> exact Qhr key ob nb cb oR cR o cap l w hG hc hn hR hlen hk hl
 |[a],_=> exact Qhb key ob nb cb oR cR o cap l w a hG hc hn hR hlen hk hl
 |[a,b],_=> exact Qhv key ob nb cb oR cR o cap l w a b hG hc hn hR hlen hk hl
 |[a,b,c],_=> exact Qhh key ob nb cb oR cR o cap l w a b c hG hc hn hR hlen hk hl
theorem QfW {W:World} {g:Nat} {f:Pt} (hg:W.heap[g]? =some (.cells (ptA f) 188 (0,0))):W.rangeAt g 0 (ptL f):=fun j v hv=> by
 rw [Nat.zero_add,cell_of_row _ _ j (ptA f) _ (0,0) hg]
 simpa [ptA] using hv
theorem Q1j {w w':World} {b o:Nat} {cs:List Value} (h:w.rangeAt b o cs) (hb:Below w.heap.size w w') (hlt:b < w.heap.size):w'.rangeAt b o cs:=fun j v hv=> (hb.cell (p:=⟨b,o+j,none⟩) hlt).trans (h j v hv)
theorem Q6Q {w:World} {b o B:Nat} {cs:List Value} (h:w.rangeAt b o cs) (hne:b≠B) (j:Nat) (u:Value):(w.setCell ⟨B,j,none⟩ u).rangeAt b o cs:=fun i v hv=> (Q1e hne).trans (h i v hv)
theorem Q4L {w w':World} {b o:Nat} {cs:List Value} {r:Option Nat} (h:w.rangeAt b o cs) (hg:w.grownBy w' r) (hlt:b < w.heap.size) (hne:some b≠r):w'.rangeAt b o cs:=fun j v hv=> by
 have h1:=h j v hv;have h2:=hg.block b hlt hne
 simp only [World.cell?,h2] at h1 ⊢
 exact h1
theorem Q2B (W:World) (B:Nat) (x y z:Value):(setP W B x y z).heap.size=W.heap.size:=by simp [World.setCell]
theorem Qi6 {cur W:World} {B:Nat} {key:Int} {o2:Option Addr} {c2:Nat} {l:List Bk} {z0 z1 z2:Value} (hZ:W.heap[B]? =some (.cells #[z0,z1,z2] 29 (0,0))) (hx:Below cur.heap.size cur W) (hB:cur.heap.size≤B) (ho:Q1i W cur.heap.size (.slice o2 l.length c2) l):
  ∃B' o' c',Value.pointer (some ⟨B,0,none⟩)=.pointer (some ⟨B',0,none⟩)∧Hid ((setP W B (.int .i64 key) (.slice o2 l.length c2) (.slice none 0 0)).heap[B']? =some (.cells #[.int .i64 key,.slice o' l.length c',.slice none 0 0] 29 (0,0)))∧Hid (Below cur.heap.size cur (setP W B (.int .i64 key) (.slice o2 l.length c2) (.slice none 0 0)))∧cur.heap.size≤B'∧B' < (setP W B (.int .i64 key) (.slice o2 l.length c2) (.slice none 0 0)).heap.size∧Hid (Q1i (setP W B (.int .i64 key) (.slice o2 l.length c2) (.slice none 0 0)) cur.heap.size (.slice o' l.length c') l):=by
 have b1:=Q06 hZ 0 (.int .i64 key);have b2:=Q06 b1 1 (.slice o2 l.length c2);have b3:=Q06 b2 2 (.slice none 0 0)
 exact ⟨B,o2,c2,rfl,b3,Q0u hx hB _ _ _,hB,(Array.getElem?_eq_some_iff.1 b3).1,Q0o (Q0o (Q0o ho hZ Q7p 0 _) b1 Q7p 1 _) b2 Q7p 2 _⟩
theorem Qhc {cur W:World} {key:Int} {o2:Option Addr} {c2:Nat} {l:List Bk} (hx:Below cur.heap.size cur W) (ho:Q1i W cur.heap.size (.slice o2 l.length c2) l):
  ∃B' o' c',Value.pointer (some ⟨W.heap.size,0,none⟩)=.pointer (some ⟨B',0,none⟩)∧Hid ((W.alloc (.cells #[.int .i64 key,.slice o2 l.length c2,.slice none 0 0] 29)).heap[B']? =some (.cells #[.int .i64 key,.slice o' l.length c',.slice none 0 0] 29 (0,0)))∧Hid (Below cur.heap.size cur (W.alloc (.cells #[.int .i64 key,.slice o2 l.length c2,.slice none 0 0] 29)))∧cur.heap.size≤B'∧B' < (W.alloc (.cells #[.int .i64 key,.slice o2 l.length c2,.slice none 0 0] 29)).heap.size∧Hid (Q1i (W.alloc (.cells #[.int .i64 key,.slice o2 l.length c2,.slice none 0 0] 29)) cur.heap.size (.slice o' l.length c') l):=
 ⟨W.heap.size,o2,c2,rfl,World.alloc_heap_new W _,hx.alloc hx.size _,hx.size,by simp,Q03 ho ((Below.refl _ _).alloc (Kaq _) _)⟩
theorem Rw.grow {α:Type} {Q:Nat→Nat→World→Value→α→Prop} {d:α} {xs:List α} {a b:Nat} {w w':World} {hs:List Hd} {L H:Nat→Nat} {r:Option Nat} (hQ:Stps Q) (h:Rw Q d xs a b w hs L H) (hg:w.grownBy w' r) (ho:∀i,i < xs.length→∀g,r=some g→g < L i∨H i≤g):Rw Q d xs a b w' hs L H:=by
 cases r with
 |none=> exact h.step hQ (Stp.grown (lo:=0) (hi:=0) hg (fun b e=> by cases e)) (fun i _=> .inl (Kcq _))
 |some g=> exact h.step hQ (Stp.grown (lo:=g) (hi:=g+1) hg (fun b e=> by injection e with e;omega)) (fun i hi=> by have:=ho i hi g rfl;omega)
theorem Q6W {w:World} {o:Option Addr} {n c:Nat} {T:TypeId}:RdL Q0C (w.alloc (.cells #[.slice o n c] T)).heap.size (w.alloc (.cells #[.slice o n c] T)) (some ⟨w.heap.size,0,none⟩) [(o,n,c)]:=
 .inr ⟨w.heap.size,0,rfl,by simp,fun i hi j hj=> by
  have e1:i=0:=by simpa using hi
  subst e1
  match j,hj with
  |0,_=> simp [Q0C]⟩
theorem RdL.range {w:World} {b off:Nat} {fs:List Pt} (h:∀i,i < fs.length→∀j,j < Q1T.k→w.cell? ⟨b,off+i * Q1T.k+j,none⟩=(Q1T.cs (fs.getD i Q1T.d))[j]?) (i:Nat) (hi:i < fs.length):w.rangeAt b (off+i * 24) (ptL (fs.getD i ptZ)):=fun j v hv=> by
 have hj:j < 24:=by have:=(List.getElem?_eq_some_iff.1 hv).1;rw [Qaa] at this;exact this
 exact (h i hi j hj).trans hv
theorem Qhy {B:Nat} {w wc wr:World} {oR:Option Addr} {fs:List Pt} (h:RdL Q1T w.heap.size w oR fs) (hb:Below w.heap.size w wc) (s:Stp B (B+1) wc wr) (hB:w.heap.size≤B):RdL Q1T w.heap.size wr oR fs:=by
 rcases h with h|⟨b,off,ho,hlt,r⟩
 ·exact .inl h
 ·refine .inr ⟨b,off,ho,hlt,fun i hi j hj=> ?_⟩
  have h1:=(hb.cell (p:=⟨b,off+i * Q1T.k+j,none⟩) hlt).trans (r i hi j hj);have hl:(Q1T.cs (fs.getD i Q1T.d)).length=Q1T.k:=Q1T.len _
  rw [List.getElem?_eq_getElem (by omega)] at h1 ⊢
  exact s.cellP h1 (.inl (show b < B by omega))
theorem Qbc {mid hi cQ:Nat} {wr:World} {oQ:Option Addr} {hs:List Hd} {L H:Nat→Nat} {fs:List Pt} {n:Nat} (hn:n=fs.length) (h:Rw InT [] ((fs.map Q3K).take n) mid hi wr hs L H) (ho:ownL Q0C 51 wr mid (.slice oQ n cQ) hs):ownL Q0C 51 wr mid (.slice oQ n cQ) hs∧Rw InT [] (fs.map Q3K) mid hi wr hs L H:=by
 rw [hn,show fs.length=(fs.map Q3K).length by simp,List.take_length] at h
 exact ⟨ho,h⟩
theorem Qgm {oQ:Option Addr} {n cQ:Nat} {L H:Nat→Nat} {fs:List Pt} (hn:n=fs.length) (h:QgQ (.slice oQ n cQ) n L H):QgQ (.slice oQ n cQ) (fs.map Q3K).length L H:=by
 rw [List.length_map,←hn];exact h
theorem Q30 (W:World) (B:Nat) (x y z:Value):Stp B (B+1) W (setP W B x y z):=((Q0t W B 0 x).trans (Q0t _ B 1 y)).trans (Q0t _ B 2 z)
theorem Qf4 (fs:List Pt) (i:Nat) (h:i < fs.length):(fs.map Q3K).take (i+1)=(fs.map Q3K).take i++[Q3K (fs.getD i ptZ)]:=by
 have hk:i < (fs.map Q3K).length:=by rw [List.length_map];exact h
 rw [List.take_succ_eq_append_getElem hk]
 simp [h]
theorem Rw.more {v1 w8:World} {mid b0 l2 n:Nat} {hs:List Hd} {L H:Nat→Nat} {xs:List (List (List Int))} {x:List (List Int)} {o4 oQ:Option Addr} {cQ n4 c4:Nat} {O:Obj} (h:Rw InT [] xs mid b0 v1 hs L H) (hxn:xs.length=n) (hb:b0≤l2) (hm:mid≤l2) (hl:l2≤v1.heap.size) (q:InT l2 v1.heap.size v1 (.slice o4 n4 c4) x) (hout:QgQ (.slice oQ n cQ) n L H) (hlt:∀g,(Value.slice oQ n cQ).ownBlock=some g→g < b0) (hg:(v1.alloc O).grownBy w8 (Value.slice oQ n cQ).ownBlock):
  Rw InT [] (xs++[x]) mid w8.heap.size w8 (hs++[(o4,n4,c4)]) (fun i=> if i < n then L i else l2) (fun i=> if i < n then H i else v1.heap.size):=by
 subst hxn;have h1:=h.snoc hb hm hl q;have h2:=h1.kept InT.stp ((Below.refl v1.heap.size v1).alloc (Kaq _) O);have hsz:=hg.size
 rw [World.size_alloc] at hsz
 refine (h2.grow InT.stp hg (fun i hi g e=> ?_)).mono (Kaq _) (by omega)
 by_cases hi':i < xs.length
 ·simp only [hi',if_true];exact hout i hi' g e
 ·simp only [hi',if_false];have:=hlt g e;omega
theorem Q6q {B:Nat} {wc v1 w8:World} {O:Obj} {r:Option Nat} (s:Stp B (B+1) wc v1) (hg:(v1.alloc O).grownBy w8 r) (hr:∀g,r=some g→wc.heap.size≤g):Stp B (B+1) wc w8:=by
 have hs:=s.size;have h1:=hg.size
 rw [World.size_alloc] at h1
 refine ⟨hg.os.trans s.os,hg.tape.trans s.tape,hg.output.trans s.output,by omega,fun k hk hn=> ?_⟩
 exact (hg.block k (by simp;omega) (fun e=> by have:=hr k e.symm;omega)).trans ((Below.heap_alloc v1 O k (by omega)).trans (s.block k hk hn))
theorem InPm.mono {lo lo' hi:Nat} {w:World} {v:Value} {m:Pm} (h:InPm lo hi w v m) (hl:lo'≤lo):InPm lo' hi w v m:=by
 obtain ⟨vb,vr,mid,e,k1,k2,h1,h2⟩:=h
 exact ⟨vb,vr,mid,e,by omega,k2,InRow.mono h1 hl (Kaq _),h2⟩
theorem QhN:(119:TypeId)≠51:=by decide
theorem Q8w {v1:World} {b0 l2:Nat} {L H:Nat→Nat} {n:Nat} {oQ o8:Option Addr} {cQ c8:Nat} {O:Obj} (hout:QgQ (.slice oQ n cQ) n L H) (hH:∀i,i < n→H i≤b0) (hb:b0≤l2) (hl:l2≤v1.heap.size) (hlt:∀g,(Value.slice oQ n cQ).ownBlock=some g→g < b0) (hn:(Value.slice o8 (n+1) c8).ownBlock=(Value.slice oQ n cQ).ownBlock∨(Value.slice o8 (n+1) c8).ownBlock=some (v1.alloc O).heap.size):
  QgQ (.slice o8 (n+1) c8) (n+1) (fun i=> if i < n then L i else l2) (fun i=> if i < n then H i else v1.heap.size):=fun i hi g e=> by
 rcases hn with hn|hn
 ·rw [hn] at e
  by_cases hi':i < n
  ·simp only [hi',if_true];exact hout i hi' g e
  ·simp only [hi',if_false];have:=hlt g e;omega
 ·rw [hn,World.size_alloc] at e
  have e':v1.heap.size+1=g:=Option.some.inj e
  by_cases hi':i < n
  ·simp only [hi',if_true];have:=hH i hi';omega
  ·simp only [hi',if_false];omega
theorem QfZ (key:Int) (o:Option Addr) (cap:Nat) (l:List Bk) (oR:Option Addr) (cR:Nat) (fs:List Pt) (n:Nat) (hnn:n=fs.length) (w:World) (hR:RdK w.heap.size w o l) (hn:o=none→cap=0) (hlen:l.length≤1048576) (hG:RdL Q1T w.heap.size w oR fs) (hf3:n≤1048576):
  Calls Tryz.prog 69 #[Q5W key (.slice o l.length cap) (.slice oR n cR)] w fun e w'=> ∃v,e=.returned v∧InPm w.heap.size w'.heap.size w' v ⟨key,l,fs.map Q3K⟩∧Below w.heap.size w w':=by
 have HNN:=Q02 hnn;clear hnn;obtain ⟨W0,hW0⟩:∃W,((w.alloc (.cells #[.int .i64 key,.slice o l.length cap,.slice oR n cR] 127)).alloc (.cells #[.int .i64 0,.slice none 0 0,.slice none 0 0] 29))=W:=⟨_,rfl⟩
 have hb_W0:Below w.heap.size w W0:=by rw [←hW0];exact (((Below.refl _ _).alloc (Kaq _) _).alloc (by simp <;> omega) _)
 have HB:=Q02 hb_W0;clear hb_W0
 have zz:w.heap.size < W0.heap.size:=by rw [←hW0];simp <;> omega
 obtain ⟨z0,z1,z2⟩:=alc3v0v2 hW0
 have zr:w.heap.size+1 < W0.heap.size:=by rw [←hW0];simp
 obtain ⟨r0,r1,r2⟩:=alc3v1v2 hW0;obtain ⟨fr0,fr1,fr2⟩:=alf3v1v2 hW0
 have HR0:=Q02 (show W0.heap[w.heap.size+1]? =some (.cells #[.int .i64 0,.slice none 0 0,.slice none 0 0] 29 (0,0)) by rw [←hW0];exact Q1N w _ _ _)
 have hzr:=zr;have hzz0:=zz
 have HCL:=Q02 (fun W (hb:Below W0.heap.size W0 W)=> Q1J o cap l W ((hR.kept (HB.out.trans (hb.mono HB.out.size)) (Kaq _)).le (Kdq HB.out.size hb.size)) hn hlen)
 have HG:=Q02 hG;clear hR hG
 go_enter Tryz.func69,Tryz.ntmps69
 go_upto_region 1 with fail
 go_cut [3] from 6 to 11 (fun s3 wx=> ∃B o2 c2,s3=.pointer (some ⟨B,0,none⟩)∧Hid (wx.heap[B]? =some (.cells #[.int .i64 key,.slice o2 l.length c2,.slice none 0 0] 29 (0,0)))∧Hid (Below W0.heap.size W0 wx)∧W0.heap.size≤B∧B < wx.heap.size∧Hid (Q1i wx W0.heap.size (.slice o2 l.length c2) l))
 case first=>
  go_region_held3 (fun w'=> w'.cell? ⟨w.heap.size,0,none⟩=some (.int .i64 key)∧w'.cell? ⟨w.heap.size,1,none⟩=some (.slice o l.length cap)) (first|with_reducible exact ⟨k0_0,k0_1⟩|with_reducible exact ⟨z0,z1⟩|with_reducible exact ⟨Q08 k0_0 zz,Q08 k0_1 zz⟩|go_keep) (first|(go_at_call 119;have hc_:=HCL.out W0.drew (Below.drew (Below.refl _ _));with_reducible refine hc_.mono ?_;clear hc_;rintro e x0 ⟨v2,rfl,ow2,hb⟩;have hp0:Below W0.heap.size W0 x0:=Below.trans (show Below W0.heap.size W0 W0.drew from (Below.drew (Below.refl _ _))) (hb.mono (by simp));have sp0:=hp0.size;obtain ⟨o2,c2,e2,_⟩:=ownL.open (L:=Q12) ow2;subst e2;have ow2:=Q04 ow2 (show W0.heap.size≤_ by (try simp));have k0_0:=bC hp0 z0 zz;have k0_1:=bC hp0 z1 zz;clear hb)|(go_at_call 119;have hc_:=HCL.out (W0.alloc (.cells #[.int .i64 0,.slice none 0 0,.slice none 0 0] 29)).drew (Below.drew ((Below.refl _ _).alloc (Kaq _) _));with_reducible refine hc_.mono ?_;clear hc_;rintro e x0 ⟨v2,rfl,ow2,hb⟩;have hp0:Below W0.heap.size W0 x0:=Below.trans (show Below W0.heap.size W0 (W0.alloc (.cells #[.int .i64 0,.slice none 0 0,.slice none 0 0] 29)).drew from (Below.drew ((Below.refl _ _).alloc (Kaq _) _))) (hb.mono (by simp));have sp0:=hp0.size;obtain ⟨o2,c2,e2,_⟩:=ownL.open (L:=Q12) ow2;subst e2;have ow2:=Q04 ow2 (show W0.heap.size≤_ by (try simp));have k0_0:=bC hp0 z0 zz;have k0_1:=bC hp0 z1 zz;have hZa:=Q4g hb;have hzla:=(Array.getElem?_eq_some_iff.1 hZa).1;have hzc_0:=Q00 hZa 0 _ rfl;have hzf_0:=Q01 hZa 0;have hzc_1:=Q00 hZa 1 _ rfl;have hzf_1:=Q01 hZa 1;have hzc_2:=Q00 hZa 2 _ rfl;have hzf_2:=Q01 hZa 2;clear hb))
  all_goals (go_wp2_with fail;go_meet)
  all_goals first
   |with_reducible exact Qi6 hZa hp0 (Kaq _) ow2
   |with_reducible exact Qhc hp0 ow2
 case rest=>
  obtain ⟨B,o2,c2,rfl,Hbx,Hbl,hB1,hB2,Hob⟩:=hcut;have hb:=Hbl.out;have hwc:=hb.size;have HBLK:=Q02 (hb.block _ hzr);clear Hbl;replace z0:=bC hb z0 zz;replace z1:=bC hb z1 zz;replace z2:=bC hb z2 zz;replace zz:=Kbq zz hb.size;replace r0:=bC hb r0 zr;replace r1:=bC hb r1 zr;replace r2:=bC hb r2 zr;replace fr0:=bF hb fr0 zr;replace fr1:=bF hb fr1 zr;replace fr2:=bF hb fr2 zr;replace zr:=Kbq zr hb.size;replace HB:=Q02 (HB.out.trans (hb.mono HB.out.size));clear hb;have HRB:=Q02 ((HBLK.out).trans HR0.out);have HBC:=HB
  have HLB:=Q02 (fun b (e:(Value.slice o2 l.length c2).ownBlock=some b)=> (Hob.out.lt b e).2)
  have hz2c:=z2;have hr0c:=r0;have hr1c:=r1;have hr2c:=r2;have hf0c:=fr0;have hf1c:=fr1;have hf2c:=fr2;clear z0 z1 r0 r1 r2 fr0 fr1 fr2
  go_wp2
  go_loopw [15] (fun iv wr=> ∃(i:Nat) (hs:List Hd) (L H:Nat→Nat) (oQ:Option Addr) (cQ:Nat),i≤n∧iv=.int .i64 (i:Int)∧Hid (wr.heap[B]? =some (.cells #[.int .i64 key,.slice o2 l.length c2,.slice oQ i cQ] 29 (0,0)))∧Hid (ownL Q0C 51 wr wc.heap.size (.slice oQ i cQ) hs)∧Hid (Rw InT [] ((fs.map Q3K).take i) wc.heap.size wr.heap.size wr hs L H)∧Hid (QgQ (.slice oQ i cQ) i L H)∧Hid (Q1i wr W0.heap.size (.slice o2 l.length c2) l)∧wc.heap.size≤wr.heap.size∧Hid (Stp B (B+1) wc wr))
   (fun iv _=> n - (intOf iv).toNat)
  case atStart=> exact ⟨0,[],fun _=> 0,fun _=> 0,none,0,Kcq _,rfl,Hbx.out,World.ownsRow_nil _ _ _ _,by rw [List.take_zero];exact Rw.nil _ _ _ _ _ _ _,fun i hi=> absurd hi (Nat.not_lt_zero _),Hob.out,Kaq _,Stp.refl _⟩
  case round=>
   obtain ⟨i,hs,L,H,oQ,cQ,hi',rfl,HBX,HOW,HRW,HOUT,HOB,hsr,HST⟩:=hrel
   have hzB:B≠w.heap.size:=by omega
   have hBr:B≠w.heap.size+1:=by omega
   have HCELL:=Q02 (fun (p:Addr) u (hp:p.block < W0.heap.size) (h:wc.cell? p=some u)=> HST.out.cellP h (by omega))
   by_cases hlt:i < n
   ·skip
    have hlt':(i:Int) < (n:Int):=by omega
    skip
    have hif:i < fs.length:=by rw [←HNN.out];exact hlt
    have HRD:=Q02 (show RdL Q1T w.heap.size wr oR fs from Qhy HG.out HBC.out HST.out (show w.heap.size≤B by omega))
    rcases HRD.out with hh|⟨b,off,rfl,hbl,hrow⟩
    ·rw [hh] at hif;exact absurd hif (Nat.not_lt_zero _)
    have HRG:=Q02 (RdL.range hrow i hif);have HTK:=Q02 (Qf4 fs i hif);clear hrow HRD;obtain ⟨f,hf⟩:∃f,fs.getD i ptZ=f:=⟨_,rfl⟩
    rw [hf] at HRG HTK
    clear hf;obtain ⟨W2,hW2⟩:∃W,wr.alloc (.cells (ptA f) 188)=W:=⟨_,rfl⟩
    have hb2:Below wr.heap.size wr W2:=by rw [←hW2];exact (Below.refl _ _).alloc (Kaq _) _
    have hz5:W2.heap[wr.heap.size]? =some (.cells (ptA f) 188 (0,0)):=by rw [←hW2];exact World.alloc_heap_new wr _
    have hx2:=(hb2.block B (by omega)).trans HBX.out
    have hx2l:=(Array.getElem?_eq_some_iff.1 hx2).1
    have HRA:=Q02 (show W2.rangeAt wr.heap.size 0 (ptL f) from QfW hz5);clear hz5;have p2:W2.cell? ⟨B,2,none⟩=some (.slice oQ i cQ):=Q00 hx2 2 _ rfl;have HX2:=Q02 hx2;have HOW2:=Q02 (Q03 HOW.out hb2);have HRW2:=Q02 (HRW.out.kept InT.stp hb2);have HOB2:=Q02 (Q03 HOB.out hb2);have HST2:=Q02 (HST.out.trans (Stp.of hb2));have hs2:wr.heap.size≤W2.heap.size:=hb2.size
    have HLT:=Q02 (fun g (e:(Value.slice oQ i cQ).ownBlock=some g)=> (HOW.out.lt g e).2)
    have HHI:=Q02 (fun j (hj:j < i)=> (HRW.out.bd j (by rw [List.length_take,List.length_map];omega)).2)
    have HLN:=Q02 (show ((fs.map Q3K).take i).length=i by rw [List.length_take,List.length_map];omega)
    clear hb2 hx2 HOW HRW HOB
    go_wp2_with (first|(refine wpList_load_mid rfl 188 (.tmp 17) rfl b (off+i * 24) rfl (ptL f) _ HRG.out ptU rfl ptI ?_)|(refine Q0M rfl (.tmp 5) (.tmp 18) rfl wr.heap.size f ptZ rfl rfl (World.alloc_heap_new wr _) ?_;rw [World.setRow_alloc_new,hW2]))
    skip
    have HHL:=Q02 (show hs.length=i by have:=HRW2.out.len;rw [HLN.out] at this;exact this)
    have HNB:=Q02 (fun g (e:(Value.slice oQ i cQ).ownBlock=some g)=> (HOW2.out.lt g e).1)
    refine wp_region_held_drew (S:=fun w'=> w'.rangeAt wr.heap.size 0 (ptL f)) (by kernel_rfl) HRA.out (fun hHeld=> ?_)
    refine wpAnyH_take (i:=2) (oi:=_) (v:=ptv f) rfl (by kernel_rfl) (by kernel_rfl) (by kernel_rfl) (fun _ _ _ h=> h) (yieldsIf_load_mid (by rfl) _ _ rfl wr.heap.size 0 rfl (ptL f) _ (fun w h=> h) ptU rfl ptI) hHeld ?_
    try simp only [Act.put,List.setIfInBounds_toArray,List.set_cons_zero,List.set_cons_succ]
    refine wpAnyH_take (i:=0) (oi:=_) (v:=.pointer (some ⟨B,2,none⟩)) rfl (by kernel_rfl) (by kernel_rfl) (by kernel_rfl) (fun _ _ _ h=> h) (Or.inl ⟨by rfl,fun w _=> by go_simp⟩) hHeld ?_
    try simp only [Act.put,List.setIfInBounds_toArray,List.set_cons_zero,List.set_cons_succ]
    have ra0:W2.drew.rangeAt wr.heap.size 0 (ptL f):=HRA.out
    have hzw:wr.heap.size < W2.heap.size:=by rw [←hW2];simp
    refine wpAnyH_ready (rs:=[1,3]) (by kernel_rfl) (by simp) ?_
    refine AllReadyH.cons rfl (fun K hK=> ?_) ?_
    ·skip
     go_simp
     refine hK.out _ _ ra0 (fun hHeld=> ?_)
     clear hK K
     try simp only [Act.put,List.setIfInBounds_toArray,List.set_cons_zero,List.set_cons_succ]
     refine wpAnyH_ready (rs:=[3]) (by kernel_rfl) (by simp) ?_
     refine AllReadyH.cons rfl (fun K hK=> ?_) ?_
     ·skip
      go_simp
      go_at_call 120
      refine (Q8V f _).mono ?_
      rintro e v1 ⟨v4,rfl,it4,hb4⟩
      replace hb4:Below W2.heap.size W2 v1:=(Below.drew (Below.refl _ _)).trans hb4;replace it4:InT W2.heap.size v1.heap.size v1 v4 (Q3K f):=it4;obtain ⟨o4,c4,e4,_⟩:=RiT.rd (InT.ri it4)
      rw [Q3G] at e4
      subst e4;have hx4:=(hb4.block B hx2l).trans HX2.out
      have hx4l:=(Array.getElem?_eq_some_iff.1 hx4).1
      have p4:v1.cell? ⟨B,2,none⟩=some (.slice oQ i cQ):=Q00 hx4 2 _ rfl
      have p4a:∀O,(v1.alloc O).cell? ⟨B,2,none⟩=some (.slice oQ i cQ):=(fun O=> ((Below.refl v1.heap.size v1).alloc (Kaq _) O).cell (p:=⟨B,2,none⟩) hx4l|>.trans p4)
      have hs4:=hb4.size;have HOW4:=Q02 (Q03 HOW2.out hb4);have HRW4:=Q02 (HRW2.out.kept InT.stp hb4);have HOB4:=Q02 (Q03 HOB2.out hb4);have HST4:=Q02 (HST2.out.trans (Stp.of hb4));have HIT:=Q02 it4;have ra1:v1.rangeAt wr.heap.size 0 (ptL f):=Q1j HRA.out hb4 hzw;have HX4:=Q02 hx4;clear it4 hb4 hx4
      go_wp2_with fail
      refine hK.out _ _ ra1 (fun hHeld=> ?_)
      clear hK K
      try simp only [Act.put,List.setIfInBounds_toArray,List.set_cons_zero,List.set_cons_succ]
      refine wpAnyH_ready (rs:=[4]) (by kernel_rfl) (by simp) ?_
      refine AllReadyH.cons rfl (fun K hK=> ?_) ?_
      ·skip
       go_simp
       refine hK.out _ _ (Q1j ra1 ((Below.refl v1.heap.size v1).alloc (Kaq _) (.cells #[.slice o4 8 c4] 51)) (by omega)) (fun hHeld=> ?_)
       clear hK K
       try simp only [Act.put,List.setIfInBounds_toArray,List.set_cons_zero,List.set_cons_succ]
       refine wpAnyH_ready (rs:=[5]) (by kernel_rfl) (by simp) ?_
       refine AllReadyH.cons rfl (fun K hK=> ?_) ?_
       ·skip
        refine Q0n Q5y rfl (.tmp 20) (.tmp 23) rfl wc.heap.size (.slice oQ i cQ) hs rfl (HOW4.out.alloc (.cells #[.slice o4 8 c4] 51)) (some ⟨v1.heap.size,0,none⟩) 1 _ [(o4,8,c4)] 1 rfl rfl (by simp) Q6W (by rw [HHL.out];simp;omega) (by simp;omega) ?_
        intro v8 w8 ho8 hg8 hn8
        obtain ⟨o8,c8,e8,_⟩:=ownL.open (L:=Q0C) ho8
        have hl8:(hs++[((o4,8,c4):Hd)]).length=i+1:=(by rw [List.length_append,HHL.out];rfl)
        rw [hl8] at e8
        subst e8
        have hx8:=(hg8.block B (by simp;omega) (fun e=> by have:=HLT.out B e.symm;have:=HNB.out B e.symm;omega)).trans ((Below.heap_alloc _ _ _ hx4l).trans HX4.out)
        have p8:w8.cell? ⟨B,2,none⟩=some (.slice oQ i cQ):=Q00 hx8 2 _ rfl;have f8:=Q01 hx8 2
        have ra3:w8.rangeAt wr.heap.size 0 (ptL f):=Q4L (Q1j ra1 ((Below.refl v1.heap.size v1).alloc (Kaq _) _) (by omega)) hg8 (by simp;omega) (fun e=> by have:=HLT.out _ e.symm;omega)
        have HX8:=Q02 hx8;have HO8:=Q02 ho8;have HG8:=Q02 hg8;have HN8:=Q02 hn8;clear ho8 hg8 hn8 hx8
        refine hK.out _ _ ra3 (fun hHeld=> ?_)
        clear hK K
        try simp only [Act.put,List.setIfInBounds_toArray,List.set_cons_zero,List.set_cons_succ]
        refine wpAnyH_take (i:=6) (oi:=_) (v:=.pointer (some ⟨B,2,none⟩)) rfl (by kernel_rfl) (by kernel_rfl) (by kernel_rfl) (fun _ _ _ h=> h) (Or.inl ⟨by rfl,fun w _=> by go_simp⟩) hHeld ?_
        try simp only [Act.put,List.setIfInBounds_toArray,List.set_cons_zero,List.set_cons_succ]
        refine wpAnyH_ready (rs:=[7]) (by kernel_rfl) (by simp) ?_
        refine AllReadyH.cons rfl (fun K hK=> ?_) ?_
        ·skip
         go_simp
         refine hK.out _ _ (Q6Q ra3 (by omega) _ _) (fun hHeld=> ?_)
         clear hK K
         try simp only [Act.put,List.setIfInBounds_toArray,List.set_cons_zero,List.set_cons_succ]
         refine wpAnyH_done (by kernel_rfl) ?_ _
         have HX9:Hid ((w8.setCell ⟨B,2,none⟩ (.slice o8 (i+1) c8)).heap[B]? =some (.cells #[.int .i64 key,.slice o2 l.length c2,.slice o8 (i+1) c8] 29 (0,0))):=Q06 HX8.out 2 _;have HO9:Hid (ownL Q0C 51 (w8.setCell ⟨B,2,none⟩ (.slice o8 (i+1) c8)) wc.heap.size (.slice o8 (i+1) c8) (hs++[(o4,8,c4)])):=Q0o HO8.out HX8.out Q9a 2 _
         have hR8:=Rw.more HRW4.out HLN.out hs2 (show wc.heap.size≤W2.heap.size by omega) hs4 HIT.out HOUT.out HLT.out HG8.out
         rw [←HTK.out] at hR8
         have HR9:Hid (Rw InT [] ((fs.map Q3K).take (i+1)) wc.heap.size (w8.setCell ⟨B,2,none⟩ (.slice o8 (i+1) c8)).heap.size (w8.setCell ⟨B,2,none⟩ (.slice o8 (i+1) c8)) (hs++[(o4,8,c4)]) _ _):=(hR8.step InT.stp (Q0t w8 B 2 (.slice o8 (i+1) c8)) (fun j hj=> .inl (Kdq (show B+1≤wc.heap.size from hB2) (hR8.bd j hj).1))).mono (Kaq _) (by simp)
         have HU9:=Q02 (Q8w HOUT.out HHI.out hs2 hs4 HLT.out HN8.out);have HOB9:Hid (Q1i (w8.setCell ⟨B,2,none⟩ (.slice o8 (i+1) c8)) W0.heap.size (.slice o2 l.length c2) l):=Q0o (World.ownsRow.kept (World.ownsRow.alloc HOB4.out _) HG8.out (Q2w HOB4.out HOW4.out QhN)) HX8.out Q7p 2 _
         have HS9:=Q02 ((Q6q HST4.out HG8.out (fun g e=> HNB.out g e)).trans (Q0t w8 B 2 (.slice o8 (i+1) c8)))
         have hs9:wc.heap.size≤w8.heap.size:=by have:=HS9.out.size;simpa using this
         clear hR8
         go_wp2
         go_roundw
         case rel=> exact ⟨i+1,_,_,_,o8,c8,by omega,by go_num,HX9.out,HO9.out,HR9.out,HU9.out,HOB9.out,by simpa using hs9,HS9.out⟩
         case measure=> simp [intOf];omega
        exact AllReadyH.nil
       exact AllReadyH.nil
      exact AllReadyH.nil
     exact AllReadyH.nil
    refine AllReadyH.cons rfl (fun K hK=> ?_) ?_
    ·skip
     go_simp
     go_at_call 120
     refine (Q8V f _).mono ?_
     rintro e v1 ⟨v4,rfl,it4,hb4⟩
     replace hb4:Below W2.heap.size W2 v1:=(Below.drew (Below.refl _ _)).trans hb4;replace it4:InT W2.heap.size v1.heap.size v1 v4 (Q3K f):=it4;obtain ⟨o4,c4,e4,_⟩:=RiT.rd (InT.ri it4)
     rw [Q3G] at e4
     subst e4;have hx4:=(hb4.block B hx2l).trans HX2.out
     have hx4l:=(Array.getElem?_eq_some_iff.1 hx4).1
     have p4:v1.cell? ⟨B,2,none⟩=some (.slice oQ i cQ):=Q00 hx4 2 _ rfl
     have p4a:∀O,(v1.alloc O).cell? ⟨B,2,none⟩=some (.slice oQ i cQ):=(fun O=> ((Below.refl v1.heap.size v1).alloc (Kaq _) O).cell (p:=⟨B,2,none⟩) hx4l|>.trans p4)
     have hs4:=hb4.size;have HOW4:=Q02 (Q03 HOW2.out hb4);have HRW4:=Q02 (HRW2.out.kept InT.stp hb4);have HOB4:=Q02 (Q03 HOB2.out hb4);have HST4:=Q02 (HST2.out.trans (Stp.of hb4));have HIT:=Q02 it4;have ra1:v1.rangeAt wr.heap.size 0 (ptL f):=Q1j HRA.out hb4 hzw;have HX4:=Q02 hx4;clear it4 hb4 hx4
     go_wp2_with fail
     refine hK.out _ _ ra1 (fun hHeld=> ?_)
     clear hK K
     try simp only [Act.put,List.setIfInBounds_toArray,List.set_cons_zero,List.set_cons_succ]
     refine wpAnyH_ready (rs:=[1,4]) (by kernel_rfl) (by simp) ?_
     refine AllReadyH.cons rfl (fun K hK=> ?_) ?_
     ·skip
      go_simp
      refine hK.out _ _ ra1 (fun hHeld=> ?_)
      clear hK K
      try simp only [Act.put,List.setIfInBounds_toArray,List.set_cons_zero,List.set_cons_succ]
      refine wpAnyH_ready (rs:=[4]) (by kernel_rfl) (by simp) ?_
      refine AllReadyH.cons rfl (fun K hK=> ?_) ?_
      ·skip
       go_simp
       refine hK.out _ _ (Q1j ra1 ((Below.refl v1.heap.size v1).alloc (Kaq _) (.cells #[.slice o4 8 c4] 51)) (by omega)) (fun hHeld=> ?_)
       clear hK K
       try simp only [Act.put,List.setIfInBounds_toArray,List.set_cons_zero,List.set_cons_succ]
       refine wpAnyH_ready (rs:=[5]) (by kernel_rfl) (by simp) ?_
       refine AllReadyH.cons rfl (fun K hK=> ?_) ?_
       ·skip
        refine Q0n Q5y rfl (.tmp 20) (.tmp 23) rfl wc.heap.size (.slice oQ i cQ) hs rfl (HOW4.out.alloc (.cells #[.slice o4 8 c4] 51)) (some ⟨v1.heap.size,0,none⟩) 1 _ [(o4,8,c4)] 1 rfl rfl (by simp) Q6W (by rw [HHL.out];simp;omega) (by simp;omega) ?_
        intro v8 w8 ho8 hg8 hn8
        obtain ⟨o8,c8,e8,_⟩:=ownL.open (L:=Q0C) ho8
        have hl8:(hs++[((o4,8,c4):Hd)]).length=i+1:=(by rw [List.length_append,HHL.out];rfl)
        rw [hl8] at e8
        subst e8
        have hx8:=(hg8.block B (by simp;omega) (fun e=> by have:=HLT.out B e.symm;have:=HNB.out B e.symm;omega)).trans ((Below.heap_alloc _ _ _ hx4l).trans HX4.out)
        have p8:w8.cell? ⟨B,2,none⟩=some (.slice oQ i cQ):=Q00 hx8 2 _ rfl;have f8:=Q01 hx8 2
        have ra3:w8.rangeAt wr.heap.size 0 (ptL f):=Q4L (Q1j ra1 ((Below.refl v1.heap.size v1).alloc (Kaq _) _) (by omega)) hg8 (by simp;omega) (fun e=> by have:=HLT.out _ e.symm;omega)
        have HX8:=Q02 hx8;have HO8:=Q02 ho8;have HG8:=Q02 hg8;have HN8:=Q02 hn8;clear ho8 hg8 hn8 hx8
        refine hK.out _ _ ra3 (fun hHeld=> ?_)
        clear hK K
        try simp only [Act.put,List.setIfInBounds_toArray,List.set_cons_zero,List.set_cons_succ]
        refine wpAnyH_take (i:=6) (oi:=_) (v:=.pointer (some ⟨B,2,none⟩)) rfl (by kernel_rfl) (by kernel_rfl) (by kernel_rfl) (fun _ _ _ h=> h) (Or.inl ⟨by rfl,fun w _=> by go_simp⟩) hHeld ?_
        try simp only [Act.put,List.setIfInBounds_toArray,List.set_cons_zero,List.set_cons_succ]
        refine wpAnyH_ready (rs:=[7]) (by kernel_rfl) (by simp) ?_
        refine AllReadyH.cons rfl (fun K hK=> ?_) ?_
        ·skip
         go_simp
         refine hK.out _ _ (Q6Q ra3 (by omega) _ _) (fun hHeld=> ?_)
         clear hK K
         try simp only [Act.put,List.setIfInBounds_toArray,List.set_cons_zero,List.set_cons_succ]
         refine wpAnyH_done (by kernel_rfl) ?_ _
         have HX9:Hid ((w8.setCell ⟨B,2,none⟩ (.slice o8 (i+1) c8)).heap[B]? =some (.cells #[.int .i64 key,.slice o2 l.length c2,.slice o8 (i+1) c8] 29 (0,0))):=Q06 HX8.out 2 _;have HO9:Hid (ownL Q0C 51 (w8.setCell ⟨B,2,none⟩ (.slice o8 (i+1) c8)) wc.heap.size (.slice o8 (i+1) c8) (hs++[(o4,8,c4)])):=Q0o HO8.out HX8.out Q9a 2 _
         have hR8:=Rw.more HRW4.out HLN.out hs2 (show wc.heap.size≤W2.heap.size by omega) hs4 HIT.out HOUT.out HLT.out HG8.out
         rw [←HTK.out] at hR8
         have HR9:Hid (Rw InT [] ((fs.map Q3K).take (i+1)) wc.heap.size (w8.setCell ⟨B,2,none⟩ (.slice o8 (i+1) c8)).heap.size (w8.setCell ⟨B,2,none⟩ (.slice o8 (i+1) c8)) (hs++[(o4,8,c4)]) _ _):=(hR8.step InT.stp (Q0t w8 B 2 (.slice o8 (i+1) c8)) (fun j hj=> .inl (Kdq (show B+1≤wc.heap.size from hB2) (hR8.bd j hj).1))).mono (Kaq _) (by simp)
         have HU9:=Q02 (Q8w HOUT.out HHI.out hs2 hs4 HLT.out HN8.out);have HOB9:Hid (Q1i (w8.setCell ⟨B,2,none⟩ (.slice o8 (i+1) c8)) W0.heap.size (.slice o2 l.length c2) l):=Q0o (World.ownsRow.kept (World.ownsRow.alloc HOB4.out _) HG8.out (Q2w HOB4.out HOW4.out QhN)) HX8.out Q7p 2 _
         have HS9:=Q02 ((Q6q HST4.out HG8.out (fun g e=> HNB.out g e)).trans (Q0t w8 B 2 (.slice o8 (i+1) c8)))
         have hs9:wc.heap.size≤w8.heap.size:=by have:=HS9.out.size;simpa using this
         clear hR8
         go_wp2
         go_roundw
         case rel=> exact ⟨i+1,_,_,_,o8,c8,by omega,by go_num,HX9.out,HO9.out,HR9.out,HU9.out,HOB9.out,by simpa using hs9,HS9.out⟩
         case measure=> simp [intOf];omega
        exact AllReadyH.nil
       exact AllReadyH.nil
      exact AllReadyH.nil
     refine AllReadyH.cons rfl (fun K hK=> ?_) ?_
     ·skip
      go_simp
      refine hK.out _ _ (Q1j ra1 ((Below.refl v1.heap.size v1).alloc (Kaq _) (.cells #[.slice o4 8 c4] 51)) (by omega)) (fun hHeld=> ?_)
      clear hK K
      try simp only [Act.put,List.setIfInBounds_toArray,List.set_cons_zero,List.set_cons_succ]
      refine wpAnyH_ready (rs:=[1]) (by kernel_rfl) (by simp) ?_
      refine AllReadyH.cons rfl (fun K hK=> ?_) ?_
      ·skip
       go_simp
       refine hK.out _ _ (Q1j ra1 ((Below.refl v1.heap.size v1).alloc (Kaq _) (.cells #[.slice o4 8 c4] 51)) (by omega)) (fun hHeld=> ?_)
       clear hK K
       try simp only [Act.put,List.setIfInBounds_toArray,List.set_cons_zero,List.set_cons_succ]
       refine wpAnyH_ready (rs:=[5]) (by kernel_rfl) (by simp) ?_
       refine AllReadyH.cons rfl (fun K hK=> ?_) ?_
       ·skip
        refine Q0n Q5y rfl (.tmp 20) (.tmp 23) rfl wc.heap.size (.slice oQ i cQ) hs rfl (HOW4.out.alloc (.cells #[.slice o4 8 c4] 51)) (some ⟨v1.heap.size,0,none⟩) 1 _ [(o4,8,c4)] 1 rfl rfl (by simp) Q6W (by rw [HHL.out];simp;omega) (by simp;omega) ?_
        intro v8 w8 ho8 hg8 hn8
        obtain ⟨o8,c8,e8,_⟩:=ownL.open (L:=Q0C) ho8
        have hl8:(hs++[((o4,8,c4):Hd)]).length=i+1:=(by rw [List.length_append,HHL.out];rfl)
        rw [hl8] at e8
        subst e8
        have hx8:=(hg8.block B (by simp;omega) (fun e=> by have:=HLT.out B e.symm;have:=HNB.out B e.symm;omega)).trans ((Below.heap_alloc _ _ _ hx4l).trans HX4.out)
        have p8:w8.cell? ⟨B,2,none⟩=some (.slice oQ i cQ):=Q00 hx8 2 _ rfl;have f8:=Q01 hx8 2
        have ra3:w8.rangeAt wr.heap.size 0 (ptL f):=Q4L (Q1j ra1 ((Below.refl v1.heap.size v1).alloc (Kaq _) _) (by omega)) hg8 (by simp;omega) (fun e=> by have:=HLT.out _ e.symm;omega)
        have HX8:=Q02 hx8;have HO8:=Q02 ho8;have HG8:=Q02 hg8;have HN8:=Q02 hn8;clear ho8 hg8 hn8 hx8
        refine hK.out _ _ ra3 (fun hHeld=> ?_)
        clear hK K
        try simp only [Act.put,List.setIfInBounds_toArray,List.set_cons_zero,List.set_cons_succ]
        refine wpAnyH_take (i:=6) (oi:=_) (v:=.pointer (some ⟨B,2,none⟩)) rfl (by kernel_rfl) (by kernel_rfl) (by kernel_rfl) (fun _ _ _ h=> h) (Or.inl ⟨by rfl,fun w _=> by go_simp⟩) hHeld ?_
        try simp only [Act.put,List.setIfInBounds_toArray,List.set_cons_zero,List.set_cons_succ]
        refine wpAnyH_ready (rs:=[7]) (by kernel_rfl) (by simp) ?_
        refine AllReadyH.cons rfl (fun K hK=> ?_) ?_
        ·skip
         go_simp
         refine hK.out _ _ (Q6Q ra3 (by omega) _ _) (fun hHeld=> ?_)
         clear hK K
         try simp only [Act.put,List.setIfInBounds_toArray,List.set_cons_zero,List.set_cons_succ]
         refine wpAnyH_done (by kernel_rfl) ?_ _
         have HX9:Hid ((w8.setCell ⟨B,2,none⟩ (.slice o8 (i+1) c8)).heap[B]? =some (.cells #[.int .i64 key,.slice o2 l.length c2,.slice o8 (i+1) c8] 29 (0,0))):=Q06 HX8.out 2 _;have HO9:Hid (ownL Q0C 51 (w8.setCell ⟨B,2,none⟩ (.slice o8 (i+1) c8)) wc.heap.size (.slice o8 (i+1) c8) (hs++[(o4,8,c4)])):=Q0o HO8.out HX8.out Q9a 2 _
         have hR8:=Rw.more HRW4.out HLN.out hs2 (show wc.heap.size≤W2.heap.size by omega) hs4 HIT.out HOUT.out HLT.out HG8.out
         rw [←HTK.out] at hR8
         have HR9:Hid (Rw InT [] ((fs.map Q3K).take (i+1)) wc.heap.size (w8.setCell ⟨B,2,none⟩ (.slice o8 (i+1) c8)).heap.size (w8.setCell ⟨B,2,none⟩ (.slice o8 (i+1) c8)) (hs++[(o4,8,c4)]) _ _):=(hR8.step InT.stp (Q0t w8 B 2 (.slice o8 (i+1) c8)) (fun j hj=> .inl (Kdq (show B+1≤wc.heap.size from hB2) (hR8.bd j hj).1))).mono (Kaq _) (by simp)
         have HU9:=Q02 (Q8w HOUT.out HHI.out hs2 hs4 HLT.out HN8.out);have HOB9:Hid (Q1i (w8.setCell ⟨B,2,none⟩ (.slice o8 (i+1) c8)) W0.heap.size (.slice o2 l.length c2) l):=Q0o (World.ownsRow.kept (World.ownsRow.alloc HOB4.out _) HG8.out (Q2w HOB4.out HOW4.out QhN)) HX8.out Q7p 2 _
         have HS9:=Q02 ((Q6q HST4.out HG8.out (fun g e=> HNB.out g e)).trans (Q0t w8 B 2 (.slice o8 (i+1) c8)))
         have hs9:wc.heap.size≤w8.heap.size:=by have:=HS9.out.size;simpa using this
         clear hR8
         go_wp2
         go_roundw
         case rel=> exact ⟨i+1,_,_,_,o8,c8,by omega,by go_num,HX9.out,HO9.out,HR9.out,HU9.out,HOB9.out,by simpa using hs9,HS9.out⟩
         case measure=> simp [intOf];omega
        exact AllReadyH.nil
       exact AllReadyH.nil
      exact AllReadyH.nil
     exact AllReadyH.nil
    exact AllReadyH.nil
   ·skip
    have e:i=n:=by omega
    subst e
    have hrb:=HST.out.box HRB.out (.inl (show w.heap.size+1 < B by omega))
    have r0:wr.cell? ⟨w.heap.size+1,0,none⟩=some (.int .i64 0):=Q00 hrb 0 _ rfl;have fr0:=Q01 hrb 0;have r1:wr.cell? ⟨w.heap.size+1,1,none⟩=some (.slice none 0 0):=Q00 hrb 1 _ rfl;have fr1:=Q01 hrb 1;have r2:wr.cell? ⟨w.heap.size+1,2,none⟩=some (.slice none 0 0):=Q00 hrb 2 _ rfl;have fr2:=Q01 hrb 2;have p0:wr.cell? ⟨B,0,none⟩=some (.int .i64 key):=Q00 HBX.out 0 _ rfl;have p1:wr.cell? ⟨B,1,none⟩=some (.slice o2 l.length c2):=Q00 HBX.out 1 _ rfl;have p2:wr.cell? ⟨B,2,none⟩=some (.slice oQ i cQ):=Q00 HBX.out 2 _ rfl
    have HIN:Hid (InPm W0.heap.size wr.heap.size wr (plv key (.slice o2 l.length c2) (.slice oQ i cQ)) ⟨key,l,fs.map Q3K⟩):=⟨_,_,wc.heap.size,rfl,hwc,hsr,⟨HOB.out,HLB.out⟩,⟨hs,L,H,InRow.of (Qbc HNN.out HRW.out HOW.out).1,(Qbc HNN.out HRW.out HOW.out).2,Qgm HNN.out HOUT.out⟩⟩
    have HBW:=Q02 (HBC.out.trans (HST.out.below (show w.heap.size≤B by omega) (by omega)))
    clear hrb
    go_wp2
    refine bodyPost_ret (v:=plv key (.slice o2 l.length c2) (.slice oQ i cQ)) (by simp [results,Tryz.results69,go_sem,r0,r1,r2]) rfl ⟨_,rfl, ?_,Q0u HBW.out (Nat.le_succ _) _ _ _⟩
    rw [Q2B]
    exact InPm.mono (HIN.out.step (Q30 wr (w.heap.size+1) _ _ _) (.inl (by omega))) (by omega)
theorem Q4U (key:Int) (o:Option Addr) (cap:Nat) (l:List Bk) (oR:Option Addr) (cR:Nat) (fs:List Pt) (w:World) (hR:RdK w.heap.size w o l) (hn:o=none→cap=0) (hlen:l.length≤1048576) (hG:RdL Q1T w.heap.size w oR fs) (hf3:fs.length≤1048576):
  Calls Tryz.prog 69 #[Q5W key (.slice o l.length cap) (.slice oR fs.length cR)] w fun e w'=> ∃v,e=.returned v∧InPm w.heap.size w'.heap.size w' v ⟨key,l,fs.map Q3K⟩∧Below w.heap.size w w':=QfZ key o cap l oR cR fs fs.length rfl w hR hn hlen hG hf3
theorem QhE:AppOk Q2e 47 3:=⟨Tryz.underlying47,⟨_,_,QaN,rfl,by decide⟩,by decide,fun a u hu=> by
 have:u=.int .i64 a:=by simpa [Q2e] using hu
 subst this;rfl⟩
theorem Qi3:AppOk Q0C 51 47:=⟨Tryz.underlying51,⟨_,_,Q6m,rfl,by decide⟩,by decide,fun a u hu=> by
 have:u=.slice a.1 a.2.1 a.2.2:=by simpa [Q0C] using hu
 subst this;rfl⟩
def RcV {α:Type} (L:Lay α) (lo hi:Nat) (w:World) (v:Value) (l:List α):Prop:=RiV L lo hi w v l∧Qh8 v
abbrev RcT:=RiRows (RcV Q2e) []
abbrev RcR:=RiRows RcT []
theorem RcI.mon:Monos (RcV Q2e):=⟨fun h h1 h2=> ⟨RiV.mono h.1 h1 h2,h.2⟩⟩
theorem RcI.stp:Stps (RcV Q2e):=⟨fun h s hd=> ⟨RiV.step h.1 s hd,h.2⟩⟩
theorem RcT.mon:Monos RcT:=RiRows.mono RcI.mon
theorem RcT.stp:Stps RcT:=RiRows.step RcI.stp
theorem RcR.mon:Monos RcR:=RiRows.mono RcT.mon
theorem RcR.stp:Stps RcR:=RiRows.step RcT.stp
theorem RiRows.map {α:Type} {Q Q':Nat→Nat→World→Value→α→Prop} {d:α} (hq:∀{lo hi:Nat} {w:World} {v:Value} {x:α},Q lo hi w v x→Q' lo hi w v x) {lo hi:Nat} {w:World} {v:Value} {xs:List α} (h:RiRows Q d lo hi w v xs):RiRows Q' d lo hi w v xs:=by
 obtain ⟨hs,h0,h1,h2⟩:=h
 exact ⟨hs,h0,h1,fun i hi=> hq (h2 i hi)⟩
theorem RiRows.at {α:Type} {Q:Nat→Nat→World→Value→α→Prop} {d:α} {a C:Nat} {w:World} {o:Option Addr} {n c:Nat} {xs:List α} (h:RiRows Q d a C w (.slice o n c) xs) (hC:C≤w.heap.size) (i:Nat) (hi:i < xs.length):∃b off u,o=some ⟨b,off,none⟩∧b < C∧w.cell? ⟨b,off+i,none⟩=some u∧Q a C w u (xs.getD i d):=by
 obtain ⟨hs,h0,h1,h2⟩:=h;obtain ⟨o1,c1,e,r⟩:=h1.open
 injection e with e1 e2 e3
 subst e1
 rcases r with r|⟨b,off,ho,hb,r⟩
 ·subst r;simp at h0;omega
 ·exact ⟨b,off,hv hs i,ho,hb,RdL.head r i (by omega),h2 i hi⟩
theorem RcT.len {lo hi:Nat} {w:World} {v:Value} {ll:List (List Int)} (h:RcT lo hi w v ll):∃o c,v=.slice o ll.length c:=by
 obtain ⟨hs,h0,⟨o,c,e,_⟩,_⟩:=h
 exact ⟨o,c,by rw [e,h0]⟩
theorem RcV.opn {lo hi:Nat} {w:World} {v:Value} {l:List Int} (h:RcV Q2e lo hi w v l):∃o c,v=.slice o l.length c∧RdL Q2e hi w o l∧(o=none→c=0):=by
 obtain ⟨o,c,e,r⟩:=RiV.open h.1
 exact ⟨o,c,e,r,fun h0=> h.2 l.length c (by rw [e,h0])⟩
theorem Qey {α:Type} {L:Lay α} (w:World) (O:Obj) (e:TypeId):ownL L e ((w.alloc O).alloc (.cells #[] e)) (w.heap.size+1) (.slice (some ⟨w.heap.size+1,0,none⟩) 0 0) ([]:List α):=by
 have h:=Q3d (L:=L) (w.alloc O) e
 rw [World.size_alloc] at h
 exact h
def GTabs (w:World) (base:Nat) (hs:List Hd) (lll:List (List (List Int))):Prop:=hs.length=lll.length∧∀i,i < lll.length→∃o3 c3 hs8,hs.getD i (none,0,0)=(o3,(lll.getD i []).length,c3)∧ownL Q0C 47 w base (.slice o3 (lll.getD i []).length c3) hs8∧Tab (fun q=> (lll.getD i []).getD q []) (lll.getD i []).length w base hs8
theorem GTabs.nil (w:World) (base:Nat):GTabs w base [] []:=⟨rfl,fun i h=> absurd h (Nat.not_lt_zero _)⟩
theorem GTabs.kept {w w':World} {base:Nat} {hs:List Hd} {R:List (List (List Int))} (h:GTabs w base hs R) (hb:Below w.heap.size w w'):GTabs w' base hs R:=
 ⟨h.1,fun i hi=> by obtain ⟨o3,c3,hs8,e,h1,h2⟩:=h.2 i hi;exact ⟨o3,c3,hs8,e,Q03 h1 hb,h2.kept hb⟩⟩
theorem GTabs.other {w w':World} {base b2 n2:Nat} {hs:List Hd} {R:List (List (List Int))} {v2:Value} {x2:List Value} (h:GTabs w base hs R) (h2:w.ownsRow b2 51 1 v2 n2 x2) (hg:w.grownBy w' v2.ownBlock):GTabs w' base hs R:=
 ⟨h.1,fun i hi=> by obtain ⟨o3,c3,hs8,e,k1,k2⟩:=h.2 i hi;exact ⟨o3,c3,hs8,e,World.ownsRow.kept k1 hg (Q2c k1 h2 QhR),k2.other h2 Qi8 hg⟩⟩
theorem GTabs.putB {w:World} {base:Nat} {hs:List Hd} {R:List (List (List Int))} {B:Nat} {c:Array Value} (h:GTabs w base hs R) (hB:w.heap[B]? =some (.cells c 29 (0,0))) (j:Nat) (u:Value):GTabs (w.setCell ⟨B,j,none⟩ u) base hs R:=
 ⟨h.1,fun i hi=> by obtain ⟨o3,c3,hs8,e,h1,h2⟩:=h.2 i hi;exact ⟨o3,c3,hs8,e,Q0o h1 hB QhM j u,h2.grown (Q0D w B j u) (fun q hq=> Q1P (h2.row q hq) hB Qi2)⟩⟩
theorem GTabs.snoc {w:World} {base:Nat} {hs hs8:List Hd} {R:List (List (List Int))} {ll:List (List Int)} {o3:Option Addr} {c3:Nat} (h:GTabs w base hs R) (h1:ownL Q0C 47 w base (.slice o3 ll.length c3) hs8) (h2:Tab (fun q=> ll.getD q []) ll.length w base hs8):GTabs w base (hs++[(o3,ll.length,c3)]) (R++[ll]):=by
 have hl:=h.1
 refine ⟨by simp [hl],fun i hi=> ?_⟩
 by_cases hi':i < R.length
 ·have e1:(R++[ll]).getD i []=R.getD i []:=by rw [List.getD_eq_getElem?_getD,List.getElem?_append_left hi',←List.getD_eq_getElem?_getD]
  have e2:(hs++[(o3,ll.length,c3)]).getD i (none,0,0)=hs.getD i (none,0,0):=by rw [List.getD_eq_getElem?_getD,List.getElem?_append_left (by omega),←List.getD_eq_getElem?_getD]
  rw [e1,e2];exact h.2 i hi'
 ·have e0:i=R.length:=by simp at hi;omega
  subst e0
  have e1:(R++[ll]).getD R.length []=ll:=by simp
  have e2:(hs++[(o3,ll.length,c3)]).getD R.length (none,0,0)=(o3,ll.length,c3):=by rw [←hl];simp
  rw [e1,e2];exact ⟨o3,c3,hs8,rfl,h1,h2⟩
theorem GTabs.rc {w:World} {base:Nat} {hs:List Hd} {R:List (List (List Int))} {o:Option Addr} {n c:Nat} (h:GTabs w base hs R) (ho:ownL Q0C 51 w base (.slice o n c) hs):RcR base w.heap.size w (.slice o n c) R:=by
 refine ⟨hs,h.1,InRow.ri (InRow.of ho),fun i hi=> ?_⟩
 obtain ⟨o3,c3,hs8,e,h1,h2⟩:=h.2 i hi
 have e':hv hs i=.slice o3 (R.getD i []).length c3:=by unfold hv;rw [e]
 rw [e']
 exact ⟨hs8,h2.len,InRow.ri (InRow.of h1),fun j hj=> ⟨InRow.ri (InRow.of (h2.row j hj)),InRow.cap (InRow.of (h2.row j hj))⟩⟩
theorem RcR.ri {lo hi:Nat} {w:World} {v:Value} {R:List (List (List Int))} (h:RcR lo hi w v R):RiR lo hi w v R:=RiRows.map (fun q=> RiRows.map (fun r=> r.1) q) h
theorem GTabs.mono {w:World} {base b2:Nat} {hs:List Hd} {R:List (List (List Int))} (h:GTabs w base hs R) (hb:b2≤base):GTabs w b2 hs R:=
 ⟨h.1,fun i hi=> by obtain ⟨o3,c3,hs8,e,h1,h2⟩:=h.2 i hi;exact ⟨o3,c3,hs8,e,Q04 h1 hb,Tab.mono h2 hb⟩⟩
theorem Qe2 (R:List (List (List Int))) (i:Nat) (h:i < R.length):R.take (i+1)=R.take i++[R.getD i []]:=by
 rw [List.take_succ_eq_append_getElem h]
 simp [h]
theorem Qbi (key:Int) (o:Option Addr) (cap:Nat) (l:List Bk) (oR:Option Addr) (cR:Nat) (lll:List (List (List Int))) (n:Nat) (hnn:n=lll.length) (w:World) (hR:RdK w.heap.size w o l) (hn:o=none→cap=0) (hlen:l.length≤1048576) (hG:RcR 0 w.heap.size w (.slice oR n cR) lll) (hf:n≤1048576) (hx:∀i,i < lll.length→(lll.getD i []).length≤1048576) (hy:∀i,i < lll.length→∀j,j < (lll.getD i []).length→((lll.getD i []).getD j []).length≤1048576):
  Calls Tryz.prog 165 #[plv key (.slice o l.length cap) (.slice oR n cR)] w fun e w'=> ∃o2 c2 oQ cQ hs,e=.returned (plv key (.slice o2 l.length c2) (.slice oQ n cQ))∧Q1i w' w.heap.size (.slice o2 l.length c2) l∧ownL Q0C 51 w' w.heap.size (.slice oQ n cQ) hs∧GTabs w' w.heap.size hs lll∧Below w.heap.size w w':=by
 have HNN:=Q02 hnn;clear hnn;obtain ⟨W0,hW0⟩:∃W,((w.alloc (.cells #[.int .i64 key,.slice o l.length cap,.slice oR n cR] 29)).alloc (.cells #[.int .i64 0,.slice none 0 0,.slice none 0 0] 29))=W:=⟨_,rfl⟩
 have hb_W0:Below w.heap.size w W0:=by rw [←hW0];exact (((Below.refl _ _).alloc (Kaq _) _).alloc (by simp <;> omega) _)
 have HB:=Q02 hb_W0;clear hb_W0
 have zz:w.heap.size < W0.heap.size:=by rw [←hW0];simp <;> omega
 obtain ⟨z0,z1,z2⟩:=alc3v0v2 hW0
 have zr:w.heap.size+1 < W0.heap.size:=by rw [←hW0];simp
 obtain ⟨r0,r1,r2⟩:=alc3v1v2 hW0;obtain ⟨fr0,fr1,fr2⟩:=alf3v1v2 hW0
 have HR0:=Q02 (show W0.heap[w.heap.size+1]? =some (.cells #[.int .i64 0,.slice none 0 0,.slice none 0 0] 29 (0,0)) by rw [←hW0];exact Q1N w _ _ _)
 have hzr:=zr;have hzz0:=zz
 have HRK:=Q02 (fun W (hb:Below W0.heap.size W0 W)=> (hR.kept (HB.out.trans (hb.mono HB.out.size)) (Kaq _)))
 have HG:=Q02 hG;have HX:=Q02 hx;have HY:=Q02 hy;clear hR hG hx hy;have hw0:=HB.out.size
 go_enter Tryz.func165,Tryz.ntmps165
 go_upto_region 1 with fail
 go_cut [3] from 7 to 13 (fun s3 wx=> ∃B o2 c2,s3=.pointer (some ⟨B,0,none⟩)∧Hid (wx.heap[B]? =some (.cells #[.int .i64 key,.slice o2 l.length c2,.slice none 0 0] 29 (0,0)))∧Hid (Below W0.heap.size W0 wx)∧W0.heap.size≤B∧B < wx.heap.size∧Hid (Q1i wx W0.heap.size (.slice o2 l.length c2) l))
 case first=>
  go_region_held3 (fun w'=> w'.cell? ⟨w.heap.size,0,none⟩=some (.int .i64 key)∧w'.cell? ⟨w.heap.size,1,none⟩=some (.slice o l.length cap)) (first|with_reducible exact ⟨k0_0,k0_1⟩|with_reducible exact ⟨z0,z1⟩|with_reducible exact ⟨Q08 k0_0 (show w.heap.size < _ by omega),Q08 k0_1 (show w.heap.size < _ by omega)⟩|go_keep) (first|(have own_:ownL Q12 119 (W0.alloc (.cells #[] 119)).drew W0.heap.size (.slice (some ⟨W0.heap.size,0,none⟩) 0 0) ([]:List Bk):=Q3d W0 _;have hbv:Below W0.heap.size W0 (W0.alloc (.cells #[] 119)).drew:=Below.drew ((Below.refl _ _).alloc (Kaq _) _);refine Q0n Q3v rfl _ _ rfl W0.heap.size (.slice (some ⟨W0.heap.size,0,none⟩) 0 0) ([]:List Bk) rfl own_ o cap w.heap.size l l.length rfl rfl hn (HRK.out _ hbv) (by simp;omega) (by (try simp) <;> omega) ?_;intro v8 x0 ho8 hg8 _;have hp0:Below W0.heap.size W0 x0:=hbv.grown hg8 (by (try simp) <;> omega) (fun k h=> by simp [Value.ownBlock] at h;omega);have sp0:=hp0.size;obtain ⟨o2,c2,e2,_⟩:=ownL.open (L:=Q12) ho8;subst e2;have ow2:Q1i x0 W0.heap.size (.slice o2 l.length c2) l:=ho8;have k0_0:=bC hp0 z0 zz;have k0_1:=bC hp0 z1 zz;clear ho8 hg8 hbv own_)|(have own_:ownL Q12 119 ((W0.alloc (.cells #[] 119)).alloc (.cells #[.int .i64 0,.slice none 0 0,.slice none 0 0] 29)).drew W0.heap.size (.slice (some ⟨W0.heap.size,0,none⟩) 0 0) ([]:List Bk):=World.ownsRow.alloc (Q3d W0 _) _;have hbv:Below W0.heap.size W0 ((W0.alloc (.cells #[] 119)).alloc (.cells #[.int .i64 0,.slice none 0 0,.slice none 0 0] 29)).drew:=Below.drew (((Below.refl _ _).alloc (Kaq _) _).alloc (by simp) _);refine Q0n Q3v rfl _ _ rfl W0.heap.size (.slice (some ⟨W0.heap.size,0,none⟩) 0 0) ([]:List Bk) rfl own_ o cap w.heap.size l l.length rfl rfl hn (HRK.out _ hbv) (by simp;omega) (by (try simp) <;> omega) ?_;intro v8 x0 ho8 hg8 _;have hp0:Below W0.heap.size W0 x0:=hbv.grown hg8 (by (try simp) <;> omega) (fun k h=> by simp [Value.ownBlock] at h;omega);have sp0:=hp0.size;obtain ⟨o2,c2,e2,_⟩:=ownL.open (L:=Q12) ho8;subst e2;have ow2:Q1i x0 W0.heap.size (.slice o2 l.length c2) l:=ho8;have k0_0:=bC hp0 z0 zz;have k0_1:=bC hp0 z1 zz;have hZa:x0.heap[W0.heap.size+1]? =some (.cells #[.int .i64 0,.slice none 0 0,.slice none 0 0] 29 (0,0)):=(hg8.block _ (by (try simp) <;> omega) (by simp [Value.ownBlock])).trans (Q1N W0 _ _ _);have hzc_0:=Q00 hZa 0 _ rfl;have hzf_0:=Q01 hZa 0;have hzc_1:=Q00 hZa 1 _ rfl;have hzf_1:=Q01 hZa 1;have hzc_2:=Q00 hZa 2 _ rfl;have hzf_2:=Q01 hZa 2;clear ho8 hg8 hbv own_)|(have own_:ownL Q12 119 ((W0.alloc (.cells #[.int .i64 0,.slice none 0 0,.slice none 0 0] 29)).alloc (.cells #[] 119)).drew W0.heap.size (.slice (some ⟨W0.heap.size+1,0,none⟩) 0 0) ([]:List Bk):=Q04 (Qey W0 _ _) (Nat.le_succ _);have hbv:Below W0.heap.size W0 ((W0.alloc (.cells #[.int .i64 0,.slice none 0 0,.slice none 0 0] 29)).alloc (.cells #[] 119)).drew:=Below.drew (((Below.refl _ _).alloc (Kaq _) _).alloc (by simp) _);refine Q0n Q3v rfl _ _ rfl W0.heap.size (.slice (some ⟨W0.heap.size+1,0,none⟩) 0 0) ([]:List Bk) rfl own_ o cap w.heap.size l l.length rfl rfl hn (HRK.out _ hbv) (by simp;omega) (by (try simp) <;> omega) ?_;intro v8 x0 ho8 hg8 _;have hp0:Below W0.heap.size W0 x0:=hbv.grown hg8 (by (try simp) <;> omega) (fun k h=> by simp [Value.ownBlock] at h;omega);have sp0:=hp0.size;obtain ⟨o2,c2,e2,_⟩:=ownL.open (L:=Q12) ho8;subst e2;have ow2:Q1i x0 W0.heap.size (.slice o2 l.length c2) l:=ho8;have k0_0:=bC hp0 z0 zz;have k0_1:=bC hp0 z1 zz;have hZa:x0.heap[W0.heap.size]? =some (.cells #[.int .i64 0,.slice none 0 0,.slice none 0 0] 29 (0,0)):=(hg8.block _ (by (try simp) <;> omega) (by simp [Value.ownBlock])).trans (Q3E W0 _ _ _);have hzc_0:=Q00 hZa 0 _ rfl;have hzf_0:=Q01 hZa 0;have hzc_1:=Q00 hZa 1 _ rfl;have hzf_1:=Q01 hZa 1;have hzc_2:=Q00 hZa 2 _ rfl;have hzf_2:=Q01 hZa 2;clear ho8 hg8 hbv own_))
  all_goals (go_wp2_with fail;go_meet)
  all_goals first
   |with_reducible exact Qi6 hZa hp0 (by omega) ow2
   |with_reducible exact Qhc hp0 ow2
 case rest=>
  obtain ⟨B,o2,c2,rfl,Hbx,Hbl,hB1,hB2,Hob⟩:=hcut;have hb:=Hbl.out;have hwc:=hb.size;have HBLK:=Q02 (hb.block _ hzr);clear Hbl;replace z0:=bC hb z0 zz;replace z1:=bC hb z1 zz;replace z2:=bC hb z2 zz;replace zz:=Kbq zz hb.size;replace r0:=bC hb r0 zr;replace r1:=bC hb r1 zr;replace r2:=bC hb r2 zr;replace fr0:=bF hb fr0 zr;replace fr1:=bF hb fr1 zr;replace fr2:=bF hb fr2 zr;replace zr:=Kbq zr hb.size;replace HB:=Q02 (HB.out.trans (hb.mono HB.out.size));clear hb;have HRB:=Q02 ((HBLK.out).trans HR0.out);have HBC:=HB;have hz2c:=z2;have hzc:w.heap.size < W0.heap.size:=hzz0
  clear z0 z1 r0 r1 r2 fr0 fr1 fr2 z2
  go_wp2
  go_loopw [4] (fun iv wr=> ∃(i:Nat) (hs:List Hd) (oQ:Option Addr) (cQ:Nat),i≤n∧iv=.int .i64 (i:Int)∧Hid (wr.heap[B]? =some (.cells #[.int .i64 key,.slice o2 l.length c2,.slice oQ i cQ] 29 (0,0)))∧Hid (ownL Q0C 51 wr wc.heap.size (.slice oQ i cQ) hs)∧Hid (GTabs wr wc.heap.size hs (lll.take i))∧Hid (Q1i wr W0.heap.size (.slice o2 l.length c2) l)∧wc.heap.size≤wr.heap.size∧Hid (Stp B (B+1) wc wr))
   (fun iv _=> n - (intOf iv).toNat)
  case atStart=> exact ⟨0,[],none,0,Kcq _,rfl,Hbx.out,World.ownsRow_nil _ _ _ _,by rw [List.take_zero];exact GTabs.nil _ _,Hob.out,Kaq _,Stp.refl _⟩
  case round=>
   rename World=> wo
   obtain ⟨i,hs,oQ,cQ,hi',rfl,HBX,HOW,HGT,HOB,hsr,HST⟩:=hrel
   have HBW:=Q02 (HBC.out.trans (HST.out.below (show w.heap.size≤B by omega) (by omega)))
   have zq:wo.cell? ⟨w.heap.size,2,none⟩=some (.slice oR n cR):=HST.out.cellP hz2c (.inl (show w.heap.size < B by omega))
   have hzwr:w.heap.size < wo.heap.size:=by omega
   by_cases hlt:i < n
   ·skip
    have hlt':(i:Int) < (n:Int):=by omega
    have hif:i < lll.length:=by rw [←HNN.out];exact hlt
    obtain ⟨b,off,u,rfl,hbl,hcu0,hru0⟩:=HG.out.at (Kaq _) i hif;obtain ⟨o3,c3,rfl⟩:=RcT.len hru0;have hcu:wo.cell? ⟨b,off+i,none⟩=some (.slice o3 (lll.getD i []).length c3):=bC HBW.out hcu0 hbl;have HRU:=Q02 hru0;have HTK:=Q02 (Qe2 lll i hif);have HXI:=Q02 (HX.out i hif);have HYI:=Q02 (HY.out i hif);clear hcu0 hru0;obtain ⟨ll,hll⟩:∃ll,lll.getD i []=ll:=⟨_,rfl⟩
    rw [hll] at hcu HRU HTK HXI HYI
    clear hll;obtain ⟨m,hm⟩:∃m,ll.length=m:=⟨_,rfl⟩
    rw [hm] at hcu
    have HM:=Q02 hm
    have hm6:m≤1048576:=by rw [←hm];exact HXI.out
    clear hm
    have hbw:b < wo.heap.size:=by omega
    go_wp2
    go_loopw [5,6] (fun tv kv wq=> ∃(k:Nat) (hs8:List Hd),k≤m∧kv=.int .i64 (k:Int)∧Hid (ownL Q0C 47 wq wo.heap.size tv hs8)∧Hid (Tab (fun q=> ll.getD q []) k wq wo.heap.size hs8)∧Hid (Below wo.heap.size wo wq))
     (fun _ kv _=> m - (intOf kv).toNat)
    case atStart=> exact ⟨0,[],Kcq _,rfl,World.ownsRow_nil _ _ _ _,Tab.nil _ _ _,Below.refl _ _⟩
    case round=>
     rename World=> wq
     rename_i tv _
     obtain ⟨k,hs8,hk',rfl,HO,HT,HBQ⟩:=hrel;have hsq:=HBQ.out.size;have zq':=bC HBQ.out zq hzwr;have hcq:=bC HBQ.out hcu hbw
     have HBWQ:=Q02 (HBW.out.trans (HBQ.out.mono (show w.heap.size≤wo.heap.size by omega)))
     by_cases hlk:k < m
     ·skip
      have hlk':(k:Int) < (m:Int):=by omega
      obtain ⟨b2,off2,u2,e2,hbl2,hcu2,hrow⟩:=HRU.out.at (Kaq _) k (by rw [HM.out];exact hlk)
      subst e2;obtain ⟨o9,c9,rfl,hr9,hc9⟩:=RcV.opn hrow;have hcr:=bC HBWQ.out hcu2 hbl2;have HR9:=Q02 (hr9.kept HBWQ.out (Kaq _))
      have hy9:=HYI.out k (by rw [HM.out];exact hlk)
      clear hcu2 hrow hr9;obtain ⟨row,hrw⟩:∃row,ll.getD k []=row:=⟨_,rfl⟩
      rw [hrw] at hcr HR9 hy9
      have HRW:=Q02 hrw;clear hrw;obtain ⟨r9,hr9⟩:∃r,row.length=r:=⟨_,rfl⟩
      rw [hr9] at hcr hy9
      have HL9:=Q02 hr9;clear hr9;obtain ⟨W1,hW1⟩:∃W,wq.alloc (.cells #[] 3)=W:=⟨_,rfl⟩
      have hb1:Below wq.heap.size wq W1:=by rw [←hW1];exact (Below.refl _ _).alloc (Kaq _) _
      have HE1:=Q02 (show ownL Q2e 3 W1 wq.heap.size (.slice (some ⟨wq.heap.size,0,none⟩) 0 0) ([]:List Int) by rw [←hW1];exact Q3d wq _)
      have hs1:=hb1.size
      have zq1:=bC hb1 zq' (by omega)
      have hcq1:=bC hb1 hcq (by omega)
      have hcr1:=bC hb1 hcr (by omega)
      have HR1:=Q02 (HR9.out.kept hb1 (by omega))
      have HB1:=Q02 hb1;clear hb1
      go_wp2_with (first|(at_builtin;refine Q07 QhE rfl (.tmp 32) (.tmp 40) rfl wq.heap.size _ ([]:List Int) rfl HE1.out o9 c9 w.heap.size row r9 HL9.out.symm rfl hc9 HR1.out (by rw [HL9.out];simp;omega) hs1 ?_))
      intro v2 w2 ho2 hg2 _
      obtain ⟨o4,c4,e4,_⟩:=ownL.open (L:=Q2e) ho2
      rw [HL9.out] at e4
      subst e4
      have hb2:Below wq.heap.size wq w2:=HB1.out.grown hg2 hs1 (fun g e=> by have e':wq.heap.size=g:=Option.some.inj e;omega)
      have HT2:=Q02 ((HT.out.kept hb2).snoc HT.out.lt hsq (show Q9u w2 wq.heap.size (.slice o4 r9 c4) (ll.getD k []) by rw [HRW.out];exact ho2))
      have HO2:=Q02 (Q03 HO.out hb2);have HB2:=Q02 (HBQ.out.trans (hb2.mono hsq));have hsz2:=hb2.size
      have hl8:hs8.length≤1048576:=by rw [HT.out.len];omega
      clear ho2 hg2 hb2
      go_wp2_with (first|(at_builtin;refine Q07 Qi3 rfl (.tmp 31) (.tmp 42) rfl wo.heap.size _ hs8 rfl (World.ownsRow.alloc HO2.out (.cells #[.slice o4 r9 c4] 47)) (some ⟨w2.heap.size,0,none⟩) 1 _ [(o4,r9,c4)] 1 rfl rfl (by simp) Q6W (by simp;omega) (by simp;omega) ?_))
      intro v5 w5 ho5 hg5 _
      have HA:=Q02 (World.ownsRow.alloc HO2.out (.cells #[.slice o4 r9 c4] 47));have HT5:=Q02 (Tab.other (HT2.out.kept ((Below.refl _ _).alloc (Kaq _) _)) HA.out Qf7 hg5)
      have HB5:=Q02 ((HB2.out.alloc HB2.out.size _).grown hg5 (by simp;omega) (fun k h=> (HA.out.lt k h).1))
      have HO5:=Q02 ho5;clear hg5 ho5
      go_wp2
      go_roundw
      case rel=> exact ⟨k+1,_,by omega,by go_num,HO5.out,HT5.out,HB5.out⟩
      case measure=> simp [intOf];omega
     ·skip
      have e:k=m:=by omega
      subst e;obtain ⟨o4,c4,e4,_⟩:=ownL.open (L:=Q0C) HO.out
      rw [HT.out.len] at e4
      subst e4
      have hx2:=(HBQ.out.block B (by omega)).trans HBX.out
      have p2:wq.cell? ⟨B,2,none⟩=some (.slice oQ i cQ):=Q00 hx2 2 _ rfl;have HX2:=Q02 hx2
      have HHL:=Q02 (show hs.length=i by have:=HGT.out.1;rw [List.length_take] at this;omega)
      have HNB:=Q02 (fun g (e:(Value.slice oQ i cQ).ownBlock=some g)=> HOW.out.lt g e)
      have HOW2:=Q02 (Q03 HOW.out HBQ.out)
      have hl0:hs.length≤1048576:=by rw [HHL.out];omega
      have HBB:Hid (∀g,(Value.slice oQ i cQ).ownBlock=some g→g≠B):=fun g e=> by have:=HNB.out g e;omega
      clear hx2
      go_wp2_with (first|(at_builtin;refine Q07 Q5y rfl (.tmp 45) (.tmp 47) rfl wc.heap.size (.slice oQ i cQ) hs rfl (World.ownsRow.alloc HOW2.out (.cells #[.slice o4 k c4] 51)) (some ⟨wq.heap.size,0,none⟩) 1 _ [(o4,k,c4)] 1 rfl rfl (by simp) Q6W (by simp;omega) (by simp;omega) ?_))
      intro v8 w8 ho8 hg8 _
      obtain ⟨o8,c8,e8,_⟩:=ownL.open (L:=Q0C) ho8
      have hl8:(hs++[((o4,k,c4):Hd)]).length=i+1:=by rw [List.length_append,HHL.out];rfl
      rw [hl8] at e8
      subst e8
      have hx8:=(hg8.block B (by simp;omega) (fun e=> HBB.out B e.symm rfl)).trans ((Below.heap_alloc _ _ _ (by omega)).trans HX2.out)
      have p8:w8.cell? ⟨B,2,none⟩=some (.slice oQ i cQ):=Q00 hx8 2 _ rfl;have f8:=Q01 hx8 2;have HA8:=Q02 (World.ownsRow.alloc HOW2.out (.cells #[.slice o4 k c4] 51))
      have hG8:GTabs w8 wc.heap.size (hs++[(o4,k,c4)]) (lll.take (i+1)):=by
       rw [HTK.out]
       have h1:=(HGT.out.kept HBQ.out).snoc (ll:=ll) (Q04 (by rw [HM.out];exact HO.out) hsr) (Tab.mono (by rw [HM.out];exact HT.out) hsr)
       rw [HM.out] at h1
       exact (h1.kept ((Below.refl wq.heap.size wq).alloc (Kaq _) _)).other HA8.out hg8
      have HX9:Hid ((w8.setCell ⟨B,2,none⟩ (.slice o8 (i+1) c8)).heap[B]? =some (.cells #[.int .i64 key,.slice o2 l.length c2,.slice o8 (i+1) c8] 29 (0,0))):=Q06 hx8 2 _;have HO9:=Q02 (Q0o (B:=B) ho8 hx8 Q9a 2 (.slice o8 (i+1) c8));have HG9:=Q02 (hG8.putB hx8 2 (.slice o8 (i+1) c8));have HOB9:=Q02 (Q0o (World.ownsRow.kept (World.ownsRow.alloc (Q03 HOB.out HBQ.out) (.cells #[.slice o4 k c4] 51)) hg8 (Q2w (Q03 HOB.out HBQ.out) HOW2.out QhN)) hx8 Q7p 2 (.slice o8 (i+1) c8))
      have HS9:=Q02 ((Q6q (HST.out.trans (Stp.of HBQ.out)) hg8 (fun g e=> (HNB.out g e).1)).trans (Q0t w8 B 2 (.slice o8 (i+1) c8)))
      have hs9:wc.heap.size≤w8.heap.size:=by have:=HS9.out.size;simpa using this
      clear ho8 hg8 hx8 hG8
      go_wp2
      go_roundw
      case rel=> exact ⟨i+1,_,o8,c8,by omega,by go_num,HX9.out,HO9.out,HG9.out,HOB9.out,by simpa using hs9,HS9.out⟩
      case measure=> simp [intOf];omega
   ·skip
    have e:i=n:=by omega
    subst e
    have hrb:=HST.out.box HRB.out (.inl (show w.heap.size+1 < B by omega))
    have r0:wo.cell? ⟨w.heap.size+1,0,none⟩=some (.int .i64 0):=Q00 hrb 0 _ rfl;have fr0:=Q01 hrb 0;have r1:wo.cell? ⟨w.heap.size+1,1,none⟩=some (.slice none 0 0):=Q00 hrb 1 _ rfl;have fr1:=Q01 hrb 1;have r2:wo.cell? ⟨w.heap.size+1,2,none⟩=some (.slice none 0 0):=Q00 hrb 2 _ rfl;have fr2:=Q01 hrb 2;have p0:wo.cell? ⟨B,0,none⟩=some (.int .i64 key):=Q00 HBX.out 0 _ rfl;have p1:wo.cell? ⟨B,1,none⟩=some (.slice o2 l.length c2):=Q00 HBX.out 1 _ rfl;have p2:wo.cell? ⟨B,2,none⟩=some (.slice oQ i cQ):=Q00 HBX.out 2 _ rfl
    have HFI:Hid (Q1i (setP wo (w.heap.size+1) (.int .i64 key) (.slice o2 l.length c2) (.slice oQ i cQ)) w.heap.size (.slice o2 l.length c2) l∧ownL Q0C 51 (setP wo (w.heap.size+1) (.int .i64 key) (.slice o2 l.length c2) (.slice oQ i cQ)) w.heap.size (.slice oQ i cQ) hs∧GTabs (setP wo (w.heap.size+1) (.int .i64 key) (.slice o2 l.length c2) (.slice oQ i cQ)) w.heap.size hs lll):=by
     have g1:=Q06 hrb 0 (.int .i64 key);have g2:=Q06 g1 1 (.slice o2 l.length c2)
     have hg:GTabs wo wc.heap.size hs lll:=by have h:=HGT.out;rw [HNN.out,List.take_length] at h;exact h
     exact ⟨Q04 (Q0o (Q0o (Q0o HOB.out hrb Q7p 0 _) g1 Q7p 1 _) g2 Q7p 2 _) (by omega),Q04 (Q0o (Q0o (Q0o HOW.out hrb Q9a 0 _) g1 Q9a 1 _) g2 Q9a 2 _) (by omega),GTabs.mono (((hg.putB hrb 0 _).putB g1 1 _).putB g2 2 _) (by omega)⟩
    clear hrb
    go_wp2
    refine bodyPost_ret (v:=plv key (.slice o2 l.length c2) (.slice oQ i cQ)) (by simp [results,Tryz.results165,go_sem,r0,r1,r2]) rfl ⟨o2,c2,oQ,cQ,hs,rfl,HFI.out.1,HFI.out.2.1,HFI.out.2.2,Q0u HBW.out (Nat.le_succ _) _ _ _⟩
def pm0:Pm:=⟨0,[],[]⟩
def Q2Q (key:Int) (l:List Bk):List (List Int):=Q3a (fun b=> Q0Z key b l) 8
theorem Q1B (key:Int) (l:List Bk):(Q2Q key l).length=8:=Q1m _ _
theorem Q6s (key:Int) (l:List Bk) (j:Nat):((Q2Q key l).getD j []).length≤2:=by
 by_cases h:j < 8
 ·unfold Q2Q;rw [Q27 _ _ _ h];exact Q9x key j l
 ·rw [List.getD_eq_getElem?_getD,List.getElem?_eq_none (by rw [Q1B];omega)];simp
theorem QgV (key:Int) (l:List Bk):szT (Q2Q key l)≤16:=by
 have h:=Q4C (Qhe (Q2Q key l)) 2 (fun i=> Q6s key l i) (Q2Q key l).length
 unfold szT
 rw [Q1B] at h ⊢
 omega
theorem Tab.congr {R R':Nat→List Int} {k:Nat} {w:World} {base:Nat} {hs:List Hd} (h:Tab R k w base hs) (e:∀i,i < k→R i=R' i):Tab R' k w base hs:=⟨h.len,fun i hi=> by rw [←e i hi];exact h.row i hi,h.apart⟩
theorem Qae {key:Int} {l:List Bk} {w:World} {base:Nat} {hs:List Hd} (h:Tab (fun b=> Q0Z key b l) 8 w base hs):Tab (fun q=> (Q2Q key l).getD q []) (Q2Q key l).length w base hs:=by
 rw [Q1B]
 exact h.congr (fun i hi=> by unfold Q2Q;rw [Q27 _ _ _ hi])
def Q13 (key:Int) (R:List (List Bk)):List (List (List Int)):=R.map (Q2Q key)
theorem Q2G (key:Int) (R:List (List Bk)) (i:Nat) (h:i < R.length):(Q13 key R).getD i []=Q2Q key (R.getD i []):=by simp [Q13,h]
theorem Q77 (key:Int) (l:List Bk) (R:List (List Bk)) (hl:l.length≤1048576) (hR:R.length≤3):Q36 ⟨key,l,Q13 key R⟩:=by
 have hlen:(Q13 key R).length=R.length:=by simp [Q13]
 have hz:∀i,QaO (Q13 key R) i≤16:=fun i=> by
  by_cases h:i < R.length
  ·unfold QaO;rw [Q2G _ _ _ h];exact QgV key _
  ·unfold QaO;rw [List.getD_eq_getElem?_getD,List.getElem?_eq_none (by rw [hlen];omega)];exact Kcq _
 refine ⟨hl,by show (Q13 key R).length≤_;omega, ?_,fun i hi=> ?_,fun i hi j hj=> ?_⟩
 ·have h:=Q4C (QaO (Q13 key R)) 16 hz (Q13 key R).length
  show QcC (QaO (Q13 key R)) (Q13 key R).length≤1048576
  rw [hlen] at h ⊢
  omega
 ·have hi':i < R.length:=by rw [←hlen];exact hi
  show ((Q13 key R).getD i []).length≤_
  rw [Q2G _ _ _ hi',Q1B];omega
 ·have hi':i < R.length:=by rw [←hlen];exact hi
  show (((Q13 key R).getD i []).getD j []).length≤_
  rw [Q2G _ _ _ hi']
  have:=Q6s key (R.getD i []) j;omega
def Q7w (key:Int):Pm:=if Q1C key=true then ⟨key,[],Q13 key [[]]⟩ else pm0
theorem Qbt (key:Int):Q36 (Q7w key):=by
 unfold Q7w
 split
 ·exact Q77 key [] [[]] (by simp) (by simp)
 ·exact ⟨by simp [pm0],by simp [pm0],by simp [pm0,szR,QcC],fun i hi=> absurd hi (Nat.not_lt_zero _),fun i hi=> absurd hi (Nat.not_lt_zero _)⟩
theorem Q90 (lo hi:Nat) (w:World) (h:lo≤hi):InPm lo hi w (plv 0 (.slice none 0 0) (.slice none 0 0)) pm0:=⟨_,_,lo,rfl,Kaq _,h,⟨World.ownsRow_nil _ _ _ _,fun b e=> by cases e⟩,⟨[],fun _=> 0,fun _=> 0,⟨World.ownsRow_nil _ _ _ _,fun b e=> by cases e⟩,Rw.nil _ _ _ _ _ _ _,fun i h=> absurd h (Nat.not_lt_zero _)⟩⟩
theorem Q7g (key:Int) (w:World):
  Calls Tryz.prog 97 #[.int .i64 key] w fun e w'=> ∃v,e=.returned (.tuple #[v,.bool (Q1C key)])∧InPm w.heap.size w'.heap.size w' v (Q7w key)∧Below w.heap.size w w':=by
 have HKE:=Q02 (fun W=> Q0S key W)
 have HPM:=Q02 (show Q7w key=if Q1C key=true then ⟨key,[],Q13 key [[]]⟩ else pm0 from rfl);obtain ⟨W0,hW0⟩:∃W,(w.alloc (.cells #[.int .i64 0,.slice none 0 0,.slice none 0 0] 29))=W:=⟨_,rfl⟩
 have hb_W0:Below w.heap.size w W0:=by rw [←hW0];exact ((Below.refl _ _).alloc (Kaq _) _)
 have HB:=Q02 hb_W0;clear hb_W0
 have zr:w.heap.size < W0.heap.size:=by rw [←hW0];simp
 obtain ⟨r0,r1,r2⟩:=alc3v0v1 hW0;obtain ⟨fr0,fr1,fr2⟩:=alf3v0v1 hW0;have hzr:=zr
 cases hk:Q1C key with
 |false=>
  rw [hk] at HKE HPM
  go_enter Tryz.func97,Tryz.ntmps97
  go_wp2_with fail
  refine (HKE.out _).mono ?_
  rintro e _ ⟨rfl,rfl⟩
  go_wp2
  refine bodyPost_ret (v:=.tuple #[plv 0 (.slice none 0 0) (.slice none 0 0),.bool false]) (by simp [results,Tryz.results97,go_sem,r0,r1,r2]) rfl ⟨_,rfl, ?_,Q0u HB.out (Kaq _) _ _ _⟩
  rw [HPM.out,if_neg (by simp)]
  exact Q90 _ _ _ (Q0u HB.out (Kaq _) _ _ _).size
 |true=>
  have HK:=Q02 hk
  rw [hk] at HKE HPM
  clear hk
  go_enter Tryz.func97,Tryz.ntmps97
  go_wp2_with fail
  refine (HKE.out _).mono ?_
  rintro e _ ⟨rfl,rfl⟩
  have HW:=Q02 (Q8C key none 0 0 none 0 none 0 [] W0 [] (by simp) (.inl rfl) (by simp) (fun _=> rfl) (.inl rfl) (by simp) HK.out rfl)
  go_wp2_with fail
  refine (HW.out).mono ?_
  rintro e v1 ⟨o2,c2,rfl,ow2,hb⟩
  have HOW:=Q02 ow2;have hs1:=hb.size;clear ow2;replace r0:=bC hb r0 zr;replace r1:=bC hb r1 zr;replace r2:=bC hb r2 zr;replace fr0:=bF hb fr0 zr;replace fr1:=bF hb fr1 zr;replace fr2:=bF hb fr2 zr;replace zr:=Kbq zr hb.size;replace HB:=Q02 (HB.out.trans (hb.mono HB.out.size));clear hb
  have HP:=Q02 (Q4U key none 0 [] o2 c2 (Q2r key []::([]:List Pt).take 2) v1 (.inl rfl) (fun _=> rfl) (by simp) (ownL.rds (L:=Q1T) HOW.out) (by simp))
  go_wp2_with fail
  refine (HP.out).mono ?_
  rintro e v2 ⟨v9,rfl,hin,hb⟩
  have HIN:=Q02 hin;have hs2:=hb.size;clear hin;obtain ⟨o9,c9,oR9,cR9,e9⟩:∃(o9:Option Addr) (c9:Nat) (oR9:Option Addr) (cR9:Nat),v9=plv key (.slice o9 0 c9) (.slice oR9 1 cR9):=HIN.out.opn;subst e9;replace r0:=bC hb r0 zr;replace r1:=bC hb r1 zr;replace r2:=bC hb r2 zr;replace fr0:=bF hb fr0 zr;replace fr1:=bF hb fr1 zr;replace fr2:=bF hb fr2 zr;replace zr:=Kbq zr hb.size;replace HB:=Q02 (HB.out.trans (hb.mono HB.out.size));clear hb
  go_wp2
  refine bodyPost_ret (v:=.tuple #[plv key (.slice o9 0 c9) (.slice oR9 1 cR9),.bool true]) (by simp [results,Tryz.results97,go_sem,r0,r1,r2]) rfl ⟨_,rfl, ?_,Q0u HB.out (Kaq _) _ _ _⟩
  rw [HPM.out,if_pos trivial,Q2B]
  have h:=HIN.out.step (Q30 v2 w.heap.size (.int .i64 key) (.slice o9 0 c9) (.slice oR9 1 cR9)) (.inl (by omega))
  have e1:(Q2r key []::([]:List Pt).take 2).map Q3K=Q13 key [[]]:=by simp [Q13,Q2Q,Q8o key (l:=[]) rfl]
  rw [e1] at h
  exact InPm.mono h (by omega)
abbrev Q1Q (W:World) (R:Nat) (x0 x1 x2 x3 x4 x5 x6:Value):World:=((((((W.setCell ⟨R,0,none⟩ x0).setCell ⟨R,1,none⟩ x1).setCell ⟨R,2,none⟩ x2).setCell ⟨R,3,none⟩ x3).setCell ⟨R,4,none⟩ x4).setCell ⟨R,5,none⟩ x5).setCell ⟨R,6,none⟩ x6
theorem Q1a (W:World) (R:Nat) (x0 x1 x2 x3 x4 x5 x6:Value):Stp R (R+1) W (Q1Q W R x0 x1 x2 x3 x4 x5 x6):=((((((Q0t W R 0 x0).trans (Q0t _ R 1 x1)).trans (Q0t _ R 2 x2)).trans (Q0t _ R 3 x3)).trans (Q0t _ R 4 x4)).trans (Q0t _ R 5 x5)).trans (Q0t _ R 6 x6)
theorem Q0F (W:World) (R:Nat) (x0 x1 x2 x3 x4 x5 x6:Value):(Q1Q W R x0 x1 x2 x3 x4 x5 x6).heap.size=W.heap.size:=by simp [World.setCell]
theorem Q0z {C:Nat} {w W:World} {R:Nat} (h:Below C w W) (hB:C≤R) (x0 x1 x2 x3 x4 x5 x6:Value):Below C w (Q1Q W R x0 x1 x2 x3 x4 x5 x6):=((((((h.setCell (p:=⟨R,0,none⟩) hB _).setCell (p:=⟨R,1,none⟩) hB _).setCell (p:=⟨R,2,none⟩) hB _).setCell (p:=⟨R,3,none⟩) hB _).setCell (p:=⟨R,4,none⟩) hB _).setCell (p:=⟨R,5,none⟩) hB _).setCell (p:=⟨R,6,none⟩) hB _
theorem Q9R {a b a' b':Nat} {w:World} {v:Value} {m:Pm} (h:InPm a b w v m) (h1:a'≤a) (h2:b≤b'):InPm a' b' w v m:=by
 obtain ⟨vb,vr,mid,e,k1,k2,i1,i2⟩:=h
 exact ⟨vb,vr,mid,e,by omega,by omega,InRow.mono i1 h1 (Kaq _),InRows.mono.go i2 (Kaq _) h2⟩
theorem QdT {a b b':Nat} {w:World} {v:Value} {m:List Sl} (h2:b≤b') (h:InTb a b w v m):InTb a b' w v m:=by
 obtain ⟨vl,e,i1⟩:=h
 exact ⟨vl,e,InRow.mono i1 (Kaq _) h2⟩
def Q0I (m:Jm):Pm:=if Q0p m.key m.l m.safe=true then ⟨m.key,Q0e m.l m.l.length,Q13 m.key (Q1f m.l m.l.length)⟩ else pm0
theorem Q6L (cs:List Cd):∀n,(Q1f cs n).length≤3
 |0=> by simp [Q1f]
 |n+1=> by rw [Q1f,List.length_take];omega
theorem Q5r (m:Jm):Q36 (Q0I m):=by
 unfold Q0I
 split
 ·next h=> exact Q77 m.key _ _ (by have:=(Q3V h).2;omega) (Q6L _ _)
 ·exact ⟨by simp [pm0],by simp [pm0],by simp [pm0,szR,QcC],fun i hi=> absurd hi (Nat.not_lt_zero _),fun i hi=> absurd hi (Nat.not_lt_zero _)⟩
theorem Qgf {w:World} {base:Nat} {key:Int} {hs:List Hd} {R:List (List Bk)} (h:PTabs w base key hs R):GTabs w base hs (Q13 key R):=by
 refine ⟨by rw [h.1];simp [Q13],fun i hi=> ?_⟩
 have hi':i < R.length:=by simpa [Q13] using hi
 obtain ⟨o3,c3,hs8,e,h1,h2⟩:=h.2 i hi'
 rw [Q2G _ _ _ hi']
 exact ⟨o3,c3,hs8,by rw [Q1B];exact e,by rw [Q1B];exact h1,Qae h2⟩
def Q5s (cs:List Cd) (a:Nat):Nat→List (List Bk)
 |0=> []
 |j+1=> Q0e cs (a+j)::Q5s cs a j
theorem Q2d (cs:List Cd) (a:Nat):∀j,(Q5s cs a j).length=j
 |0=> rfl
 |j+1=> by simp [Q5s,Q2d cs a j]
theorem Qc9 (cs:List Cd) (a j:Nat) (key:Int) (hj:j≤2):Q2r key (Q0e cs (a+j))::((Q5s cs a j).map (Q2r key)).take 2=(Q5s cs a (j+1)).map (Q2r key):=by
 rw [List.take_of_length_le (by rw [List.length_map,Q2d];exact hj)]
 rfl
theorem Q7i (cs:List Cd):∀n,Q1f cs (n+2)=[Q0e cs (n+2),Q0e cs (n+1),Q0e cs n]
 |0=> rfl
 |n+1=> by rw [Q1f,Q7i cs n];rfl
theorem QbG (cs:List Cd) (n:Nat):Q1f cs n=Q5s cs (n+1 - 3) (n+1 - (n+1 - 3)):=by
 match n with
 |0=> rfl
 |1=> rfl
 |n+2=>
  rw [Q7i,show n+2+1 - 3=n by omega,show n+2+1 - n=3 by omega]
  simp [Q5s]
theorem Qbd {cs:List Cd} {a:Nat} (h:∀q,q < cs.length+1→Q0a (Q0e cs q)=true):∀j,a+j≤cs.length+1→∀l∈Q5s cs a j,Q0a l=true
 |0,_=> fun l hl=> by simp [Q5s] at hl
 |j+1,hj=> fun l hl=> by
  rcases List.mem_cons.1 hl with rfl|hl
  ·exact h _ (by omega)
  ·exact Qbd h j (by omega) l hl
theorem QcL {key:Int} {L:List (List Bk)} (h:∀l∈L,Q0a l=true):(L.map (Q2r key)).map Q3K=Q13 key L:=by
 rw [List.map_map]
 exact List.map_congr_left (fun l hl=> Q8o key (h l hl))
theorem Q2J {key safe:Int} {cs:List Cd} (h:Q0p key cs safe=true):∀q,q < cs.length+1→Q0a (Q0e cs q)=true∧(Q0e cs q).length≤100:=fun q hq=> by
 obtain ⟨l,hl⟩:=Q5Q (Q1O h) (show q≤cs.length by omega)
 have h1:=Q5g q l (by omega) hl
 have h2:=(Q0Q h).2.1
 unfold Q0e
 rw [hl]
 exact ⟨h1.1,by simp only [Option.getD_some];omega⟩
def bvS (hs:List Hd) (a:Nat):Nat→Value
 |0=> .slice none 0 0
 |j+1=> hv hs (a+j)
theorem QfY (hs:List Hd) (a:Nat):∀(j n:Nat),1≤j→a+(j - 1)=n→bvS hs a j=hv hs n
 |0,n,h,_=> absurd h (by omega)
 |j+1,n,_,h=> by
  rw [←h]
  rfl
theorem Q5b {α:Type} {L:Lay α} {T:TypeId} {w:World} {base:Nat} {o:Option Addr} {n c:Nat} {fs:List α} (h:ownL L T w base (.slice o n c) fs):fs.length≤c∧(o=none→c=0):=by
 rcases h.2 with ⟨e,h0⟩|⟨g,cap,cur,e,_,_,h1,_⟩
 ·injection e with e1 e2 e3
  exact ⟨by omega,fun _=> e3⟩
 ·injection e with e1 e2 e3
  exact ⟨by omega,fun h=> by rw [h] at e1;cases e1⟩
theorem Q8K (v:Value) (m:Jm) (w:World) (hR:RdJm w.heap.size w v m) (hcp:capJm v) (hf:Qc6 m):
  Calls Tryz.prog 28 #[v] w fun e w'=> ∃v',e=.returned (.tuple #[v',.bool (Q0p m.key m.l m.safe)])∧InPm w.heap.size w'.heap.size w' v' (Q0I m)∧Below w.heap.size w w':=by
 have hR0:=hR;obtain ⟨vl,rfl,⟨o,c,rfl,r⟩⟩:=hR0;clear hcp hR;obtain ⟨key,l,safe⟩:=m
 dsimp only at *
 have HPM:=Q02 (show Q0I ⟨key,l,safe⟩=if Q0p key l safe=true then ⟨key,Q0e l l.length,Q13 key (Q1f l l.length)⟩ else pm0 from rfl)
 have HFA:=Q02 (fun h:Q0p key l safe=true=> And.intro (Q0Q h) (And.intro (Q1O h) (And.intro (Q2J h) (Q5r ⟨key,l,safe⟩))))
 unfold Qc6 at hf
 dsimp only at hf
 obtain ⟨W0,hW0⟩:∃W,((w.alloc (.cells #[.int .i64 key,.slice o l.length c,.int .i64 safe] 25)).alloc (.cells #[.int .i64 0,.slice none 0 0,.slice none 0 0] 29))=W:=⟨_,rfl⟩
 have hb_W0:Below w.heap.size w W0:=by rw [←hW0];exact (((Below.refl _ _).alloc (Kaq _) _).alloc (by simp <;> omega) _)
 have HB:=Q02 hb_W0;clear hb_W0
 have zz:w.heap.size < W0.heap.size:=by rw [←hW0];simp <;> omega
 obtain ⟨z0,z1,z2⟩:=alc3v0v2 hW0
 have zr:w.heap.size+1 < W0.heap.size:=by rw [←hW0];simp
 obtain ⟨r0,r1,r2⟩:=alc3v1v2 hW0;obtain ⟨fr0,fr1,fr2⟩:=alf3v1v2 hW0
 have HR0:=Q02 (show W0.heap[w.heap.size+1]? =some (.cells #[.int .i64 0,.slice none 0 0,.slice none 0 0] 29 (0,0)) by rw [←hW0];exact Q1N w _ _ _)
 have hzr:=zr;have HTU:=Q02 (Q9d key safe o c l W0 ((r.kept HB.out (Kaq _)).le HB.out.size) hf);clear r
 cases hj:Q0p key l safe with
 |false=>
  rw [hj] at HTU HPM
  clear HFA hj
  go_enter Tryz.func28,Tryz.ntmps28
  go_wp2_with fail
  refine (HTU.out).mono ?_
  rintro e v1 ⟨v9,rfl,_,hb⟩
  replace z0:=bC hb z0 zz;replace z1:=bC hb z1 zz;replace z2:=bC hb z2 zz;replace zz:=Kbq zz hb.size;replace r0:=bC hb r0 zr;replace r1:=bC hb r1 zr;replace r2:=bC hb r2 zr;replace fr0:=bF hb fr0 zr;replace fr1:=bF hb fr1 zr;replace fr2:=bF hb fr2 zr;replace zr:=Kbq zr hb.size;replace HB:=Q02 (HB.out.trans (hb.mono HB.out.size));clear hb
  go_wp2
  refine bodyPost_ret (v:=.tuple #[plv 0 (.slice none 0 0) (.slice none 0 0),.bool false]) (by simp [results,Tryz.results28,go_sem,r0,r1,r2]) rfl ⟨_,rfl, ?_,Q0u HB.out (Nat.le_succ _) _ _ _⟩
  rw [HPM.out,if_neg (by simp)]
  exact Q90 _ _ _ (Q0u HB.out (Nat.le_succ _) _ _ _).size
 |true=>
  obtain ⟨⟨hk,hl,h0,h1⟩,hrun,hse,hfi⟩:=HFA.out hj;have HSE:=Q02 hse;have HK:=Q02 hk
  rw [hj] at HTU HPM
  clear HFA hj hse hk hfi hrun
  go_enter Tryz.func28,Tryz.ntmps28
  go_wp2_with fail
  refine (HTU.out).mono ?_
  rintro e v1 ⟨v9,rfl,hown9,hb⟩
  obtain ⟨hs,ho9,hs9⟩:=hown9 (by simp)
  have HO9:=Q02 ho9;have HS9:=Q02 hs9;have hs1:=hb.size;have HBLK:=Q02 ((hb.block _ hzr).trans HR0.out);clear hown9 ho9 hs9;replace z0:=bC hb z0 zz;replace z1:=bC hb z1 zz;replace z2:=bC hb z2 zz;replace zz:=Kbq zz hb.size;replace r0:=bC hb r0 zr;replace r1:=bC hb r1 zr;replace r2:=bC hb r2 zr;replace fr0:=bF hb fr0 zr;replace fr1:=bF hb fr1 zr;replace fr2:=bF hb fr2 zr;replace zr:=Kbq zr hb.size;replace HB:=Q02 (HB.out.trans (hb.mono HB.out.size));clear hb;have HLN:=Q02 HS9.out.len
  obtain ⟨g9,c9,e9⟩:=Q2C HO9.out (by rw [HLN.out];omega)
  subst e9;have hc9:hs.length≤c9:=(Q5b HO9.out).1;have hgl:g9 < v1.heap.size:=(HO9.out.lt g9 rfl).2;have hgb:W0.heap.size≤g9:=(HO9.out.lt g9 rfl).1;obtain ⟨N,hN⟩:∃N,hs.length=N:=⟨_,rfl⟩
  have HN:=Q02 (show N=l.length+1 by rw [←hN];exact HLN.out)
  have HNS:=Q02 hN
  rw [hN] at hc9 ⊢
  have hN1:1≤N:=by have:=HN.out;omega
  clear hN;obtain ⟨a,ha⟩:∃a,N - 3=a:=⟨_,rfl⟩
  have haN:a < N:=by omega
  have haN':(a:Int) < (N:Int):=by omega
  have hac:¬(c9=a):=by omega
  have hac':(a:Int)≤(c9:Int):=by omega
  have haN2:(a:Int)≤(N:Int):=by omega
  have hmx:max (0:Int) ((N:Int) - 3)=(a:Int):=by omega
  have HA:=Q02 ha
  have hN101:N≤101:=by have:=HN.out;omega
  clear ha
  go_wp2
  obtain ⟨W1,hW1⟩:∃W,v1.alloc (.cells #[.int .i64 key,.slice none 0 0,.slice none 0 0] 127)=W:=⟨_,rfl⟩
  rw [hW1]
  have hx1:W1.heap[v1.heap.size]? =some (.cells #[.int .i64 key,.slice none 0 0,.slice none 0 0] 127 (0,0)):=by rw [←hW1];exact World.alloc_heap_new v1 _
  have hb1:Below v1.heap.size v1 W1:=by rw [←hW1];exact (Below.refl _ _).alloc (Kaq _) _
  have HX1:=Q02 hx1
  have hs2:v1.heap.size < W1.heap.size:=(Array.getElem?_eq_some_iff.1 HX1.out).1
  have HB1:=Q02 hb1;clear hx1 hb1 hW1 z0 z1 z2 r0 r1 r2 fr0 fr1 fr2;obtain ⟨M,hM⟩:∃M,N - a=M:=⟨_,rfl⟩
  rw [hM]
  have HM:=Q02 hM
  have hM3:M≤3:=by have:=HA.out;omega
  have hM1:1≤M:=by omega
  have haM:a+M=N:=by omega
  clear hM hmx
  go_loopw [27] (fun iv wr=> ∃(j:Nat) (oR:Option Addr) (cR:Nat) (ob:Option Addr) (nb cb:Nat),j≤M∧iv=.int .i64 (j:Int)∧Hid (wr.heap[v1.heap.size]? =some (.cells #[.int .i64 key,.slice ob nb cb,.slice oR j cR] 127 (0,0)))∧Hid (bvS hs a j=.slice ob nb cb)∧Hid (ownL Q1T 188 wr W1.heap.size (.slice oR j cR) ((Q5s l a j).map (Q2r key)))∧Hid (Stp v1.heap.size (v1.heap.size+1) W1 wr)∧W1.heap.size≤wr.heap.size)
   (fun iv _=> M - (intOf iv).toNat)
  case atStart=> exact ⟨0,none,0,none,0,0,Kcq _,rfl,HX1.out,rfl,World.ownsRow_nil _ _ _ _,Stp.refl _,Kaq _⟩
  case round=>
   obtain ⟨j,oR,cR,ob,nb,cb,hj,rfl,HBX,HBV,HOW,HST,hsr⟩:=hrel;have HBV1:=Q02 (HB1.out.trans (HST.out.below (Kaq _) (Nat.le_of_lt hs2)));have p0:wr.cell? ⟨v1.heap.size,0,none⟩=some (.int .i64 key):=Q00 HBX.out 0 _ rfl;have p1:wr.cell? ⟨v1.heap.size,1,none⟩=some (.slice ob nb cb):=Q00 HBX.out 1 _ rfl;have p2:wr.cell? ⟨v1.heap.size,2,none⟩=some (.slice oR j cR):=Q00 HBX.out 2 _ rfl;have hroom:=Q5b HOW.out
   rw [List.length_map,Q2d] at hroom
   by_cases hlt:j < M
   ·skip
    have hlt':(j:Int) < (M:Int):=by omega
    have haj:a+j < l.length+1:=by have:=HN.out;omega
    have hrow:=HS9.out.row (a+j) haj;obtain ⟨oK,cK,eK,rK⟩:=ownL.open (L:=Q12) hrow;have hcap:=Q54 (eK ▸ hrow)
    have hcl:=bC HBV1.out (Q2I HO9.out (a+j) (by rw [HLN.out];exact haj)) hgl
    rw [eK] at hcl
    have HEK:=Q02 eK;have hsv:=HSE.out (a+j) haj
    have hw:=Q8C key ob nb cb oR cR oK cK (Q0e l (a+j)) wr ((Q5s l a j).map (Q2r key)) (by rw [List.length_map,Q2d];omega) (ownL.rds (L:=Q1T) HOW.out) (by rw [List.length_map,Q2d];exact hroom.1) hroom.2 ((rK.kept HBV1.out (Kaq _)).le (Kdq (Nat.le_of_lt hs2) hsr)) (by omega) HK.out hsv.1
    rw [Qc9 l a j key (by omega)] at hw
    simp only [List.length_map,Q2d] at hw
    have HW:=Q02 hw;clear hw hsv rK hrow eK;obtain ⟨nk,hnk⟩:∃n,(Q0e l (a+j)).length=n:=⟨_,rfl⟩
    rw [hnk] at hcl HW HEK
    clear hnk
    go_wp2_with fail
    refine HW.out.mono ?_
    rintro e v2 ⟨o2,c2,rfl,ow2,hb2⟩
    have hsz2:=hb2.size
    have hx2:=(hb2.block _ (show v1.heap.size < wr.heap.size by omega)).trans HBX.out
    have a0:v2.cell? ⟨v1.heap.size,0,none⟩=some (.int .i64 key):=Q00 hx2 0 _ rfl;have f0:=Q01 hx2 0;have a1:v2.cell? ⟨v1.heap.size,1,none⟩=some (.slice ob nb cb):=Q00 hx2 1 _ rfl;have f1:=Q01 hx2 1;have a2:v2.cell? ⟨v1.heap.size,2,none⟩=some (.slice oR j cR):=Q00 hx2 2 _ rfl;have f2:=Q01 hx2 2;have HX9:Hid ((setP v2 v1.heap.size (.int .i64 key) (.slice oK nk cK) (.slice o2 (j+1) c2)).heap[v1.heap.size]? =some (.cells #[.int .i64 key,.slice oK nk cK,.slice o2 (j+1) c2] 127 (0,0))):=Q06 (Q06 (Q06 hx2 0 _) 1 _) 2 _
    have HO9':=Q02 (Q0k (Q0k (Q0k (Q04 ow2 hsr) hs2 0 (.int .i64 key)) hs2 1 (.slice oK nk cK)) hs2 2 (.slice o2 (j+1) c2));have HS9':=Q02 ((HST.out.trans (Stp.of hb2)).trans (Q30 v2 v1.heap.size (.int .i64 key) (.slice oK nk cK) (.slice o2 (j+1) c2)))
    have hs9:W1.heap.size≤v2.heap.size:=by omega
    clear ow2 hb2 hx2 p0 p1 p2
    go_wp2
    go_roundw
    case rel=> exact ⟨j+1,o2,c2,oK,nk,cK,by omega,by go_num,HX9.out,HEK.out,HO9'.out,HS9'.out,by simpa using hs9⟩
    case measure=> simp [intOf];omega
   ·skip
    have e:j=M:=by omega
    subst e
    have hln:a+(j - 1)=l.length:=by have:=HN.out;omega
    have hrow:=HS9.out.row l.length (by omega)
    obtain ⟨oK,cK,eK,rK⟩:=ownL.open (L:=Q12) hrow;have hcap:=Q54 (eK ▸ hrow);have hbv:=QfY hs a j l.length hM1 hln
    rw [HBV.out,eK] at hbv
    injection hbv with e1 e2 e3
    subst e1 e2 e3
    have hsv:=HSE.out l.length (by omega)
    have hp:=Q4U key ob cb (Q0e l l.length) oR cR ((Q5s l a j).map (Q2r key)) wr ((rK.kept HBV1.out (Kaq _)).le (Kdq (Nat.le_of_lt hs2) hsr)) hcap (by omega) (ownL.rds (L:=Q1T) HOW.out) (by rw [List.length_map,Q2d];omega)
    rw [QcL (Qbd (fun q hq=> (HSE.out q hq).1) j (by have:=HN.out;omega))] at hp
    simp only [List.length_map,Q2d] at hp
    have hring:Q5s l a j=Q1f l l.length:=by rw [QbG,←HN.out,HA.out,HM.out]
    rw [hring] at hp
    have HP:=Q02 hp;clear hp hring hrow eK rK hsv;obtain ⟨sv,hsv⟩:∃s,Q0e l l.length=s:=⟨_,rfl⟩
    rw [hsv] at HP HPM p1
    obtain ⟨rg,hrg⟩:∃s,Q13 key (Q1f l l.length)=s:=⟨_,rfl⟩
    rw [hrg] at HP HPM
    clear hsv hrg
    go_wp2_with fail
    refine HP.out.mono ?_
    rintro e v3 ⟨v9,rfl,hin,hb3⟩
    have HIN:=Q02 hin;have hs4:=hb3.size;clear hin;obtain ⟨o9,c9',oR9,cR9,e9⟩:∃(o9:Option Addr) (c9:Nat) (oR9:Option Addr) (cR9:Nat),v9=plv key (.slice o9 sv.length c9) (.slice oR9 rg.length cR9):=HIN.out.opn;subst e9
    have hrb:=(hb3.block _ (show w.heap.size+1 < wr.heap.size by omega)).trans ((HBV1.out.block _ (show w.heap.size+1 < v1.heap.size by omega)).trans HBLK.out)
    have r0:v3.cell? ⟨w.heap.size+1,0,none⟩=some (.int .i64 0):=Q00 hrb 0 _ rfl;have fr0:=Q01 hrb 0;have r1:v3.cell? ⟨w.heap.size+1,1,none⟩=some (.slice none 0 0):=Q00 hrb 1 _ rfl;have fr1:=Q01 hrb 1;have r2:v3.cell? ⟨w.heap.size+1,2,none⟩=some (.slice none 0 0):=Q00 hrb 2 _ rfl;have fr2:=Q01 hrb 2
    have HBF:=Q02 ((HB.out.trans (HBV1.out.mono HB.out.size)).trans (hb3.mono (by omega)))
    clear hb3 hrb
    go_wp2
    refine bodyPost_ret (v:=.tuple #[plv key (.slice o9 sv.length c9') (.slice oR9 rg.length cR9),.bool true]) (by simp [results,Tryz.results28,go_sem,r0,r1,r2]) rfl ⟨_,rfl, ?_,Q0u HBF.out (Nat.le_succ _) _ _ _⟩
    rw [HPM.out,if_pos trivial,Q2B]
    exact InPm.mono (HIN.out.step (Q30 v3 (w.heap.size+1) _ _ _) (.inl (by omega))) (by omega)
def RcPm (lo hi:Nat) (w:World) (v:Value) (m:Pm):Prop:=∃vb vr,v=plv m.key vb vr∧RiV Q12 lo hi w vb m.l∧Qh8 vb∧RcR lo hi w vr m.ring∧Qh8 vr
theorem InT.rc {lo hi:Nat} {w:World} {v:Value} {ll:List (List Int)} (h:InT lo hi w v ll):RcT lo hi w v ll:=InRows.ri RcI.mon (fun q=> ⟨InRow.ri q,InRow.cap q⟩) h
theorem InR.rc {lo hi:Nat} {w:World} {v:Value} {ll:List (List (List Int))} (h:InR lo hi w v ll):RcR lo hi w v ll:=InRows.ri RcT.mon (fun q=> InT.rc q) h
theorem InPm.rc {lo hi:Nat} {w:World} {v:Value} {m:Pm} (h:InPm lo hi w v m):RcPm 0 hi w v m:=by
 obtain ⟨vb,vr,mid,e,k1,k2,h1,h2⟩:=h;obtain ⟨hs,L,H,h3,_⟩:=id h2
 exact ⟨vb,vr,e,(InRow.ri h1).mono (Kcq _) k2,InRow.cap h1,RcR.mon.go (InR.rc h2) (Kcq _) (Kaq _),InRow.cap h3⟩
theorem RcPm.le {lo C D:Nat} {w:World} {v:Value} {m:Pm} (h:RcPm lo C w v m) (hc:C≤D):RcPm lo D w v m:=by
 obtain ⟨vb,vr,e,h1,h2,h3,h4⟩:=h
 exact ⟨vb,vr,e,h1.mono (Kaq _) hc,h2,RcR.mon.go h3 (Kaq _) hc,h4⟩
theorem RcPm.kept {lo C D:Nat} {w w':World} {v:Value} {m:Pm} (h:RcPm lo C w v m) (hb:Below D w w') (hc:C≤D):RcPm lo C w' v m:=by
 obtain ⟨vb,vr,e,h1,h2,h3,h4⟩:=h
 have s:Stp C (w.heap.size+C) w w':=⟨hb.os,hb.tape,hb.output,hb.size,fun k hk hn=> hb.block k (by omega)⟩
 exact ⟨vb,vr,e,h1.step s (.inr (Kaq _)),h2,RcR.stp.go h3 s (.inr (Kaq _)),h4⟩
theorem RcPm.mono {a b a' b':Nat} {w:World} {v:Value} {m:Pm} (h:RcPm a b w v m) (k1:a'≤a) (k2:b≤b'):RcPm a' b' w v m:=by
 obtain ⟨vb,vr,e,h1,h2,h3,h4⟩:=h
 exact ⟨vb,vr,e,h1.mono k1 k2,h2,RcR.mon.go h3 k1 k2,h4⟩
theorem RcPm.step {a b lo hi:Nat} {w w':World} {v:Value} {m:Pm} (h:RcPm a b w v m) (s:Stp lo hi w w') (hd:hi≤a∨b≤lo):RcPm a b w' v m:=by
 obtain ⟨vb,vr,e,h1,h2,h3,h4⟩:=h
 exact ⟨vb,vr,e,h1.step s hd,h2,RcR.stp.go h3 s hd,h4⟩
theorem Q6k {w:World} {base:Nat} {key:Int} {l:List Bk} {hs:List Hd} {lll:List (List (List Int))} {o2 oQ:Option Addr} {nb c2 n cQ:Nat} (hn:nb=l.length) (h1:Q1i w base (.slice o2 nb c2) l) (h2:ownL Q0C 51 w base (.slice oQ n cQ) hs) (h3:GTabs w base hs lll):RcPm base w.heap.size w (plv key (.slice o2 nb c2) (.slice oQ n cQ)) ⟨key,l,lll⟩:=by
 subst hn
 exact ⟨_,_,rfl,InRow.ri (InRow.of h1),InRow.cap (InRow.of h1),GTabs.rc h3 h2,InRow.cap (InRow.of h2)⟩
theorem QcQ {w:World} {base:Nat} {key:Int} {l:List Bk} {o2:Option Addr} {nb c2:Nat} (hn:nb=l.length) (h1:Q1i w base (.slice o2 nb c2) l):RcPm base w.heap.size w (plv key (.slice o2 nb c2) (.slice none 0 0)) ⟨key,l,[]⟩:=by
 subst hn
 exact ⟨_,_,rfl,InRow.ri (InRow.of h1),InRow.cap (InRow.of h1),⟨[],rfl,⟨none,0,rfl,.inl rfl⟩,fun i h=> absurd h (Nat.not_lt_zero _)⟩,fun n c e=> by injection e with _ _ e3;exact e3.symm⟩
theorem RcPm.opn {lo hi:Nat} {w:World} {v:Value} {m:Pm} (h:RcPm lo hi w v m):∃(o:Option Addr) (c:Nat) (oR:Option Addr) (cR:Nat),v=plv m.key (.slice o m.l.length c) (.slice oR m.ring.length cR):=by
 obtain ⟨vb,vr,e,⟨o,c,e1,_⟩,_,h2,_⟩:=h;obtain ⟨oR,cR,e2⟩:=RiR.len (RcR.ri h2)
 exact ⟨o,c,oR,cR,by rw [e,e1,e2]⟩
theorem RcPm.rd {lo hi:Nat} {w:World} {v:Value} {m:Pm} (h:RcPm lo hi w v m):Q9S hi w v m:=by
 obtain ⟨vb,vr,e,h1,_,h2,_⟩:=h
 exact ⟨vb,vr,e,h1.mono (Kcq _) (Kaq _),RiR.mon.go (RcR.ri h2) (Kcq _) (Kaq _)⟩
theorem Qbx (key:Int) (o:Option Addr) (cap:Nat) (l:List Bk) (oR:Option Addr) (cR:Nat) (lll:List (List (List Int))) (n:Nat) (hnn:n=lll.length) (w:World) (hR:RdK w.heap.size w o l) (hn:o=none→cap=0) (hlen:l.length≤1048576) (hG:RcR 0 w.heap.size w (.slice oR n cR) lll) (hf:n≤1048576) (hx:∀i,i < lll.length→(lll.getD i []).length≤1048576) (hy:∀i,i < lll.length→∀j,j < (lll.getD i []).length→((lll.getD i []).getD j []).length≤1048576):
  Calls Tryz.prog 165 #[plv key (.slice o l.length cap) (.slice oR n cR)] w fun e w'=> ∃v,e=.returned v∧RcPm w.heap.size w'.heap.size w' v ⟨key,l,lll⟩∧Below w.heap.size w w':=by
 refine (Qbi key o cap l oR cR lll n hnn w hR hn hlen hG hf hx hy).mono ?_
 rintro e w' ⟨o2,c2,oQ,cQ,hs,rfl,h1,h2,h3,hb⟩
 exact ⟨_,rfl,Q6k rfl h1 h2 h3,hb⟩
theorem Q7K {lo hi:Nat} {w:World} {v:Value} {m:Bm} (h:InBm lo hi w v m) (hh:hi≤w.heap.size):∃(o:Option Addr) (c:Nat) (ob:Option Addr) (cb:Nat) (oR:Option Addr) (cR:Nat) (ot:Option Addr) (ct:Nat),v=Q1d m.j.key (.slice o m.j.l.length c) m.j.safe m.p.key (.slice ob m.p.l.length cb) (.slice oR m.p.ring.length cR) (.slice ot m.t.length ct)∧RdC w.heap.size w o m.j.l∧(o=none→c=0)∧Q9S w.heap.size w (plv m.p.key (.slice ob m.p.l.length cb) (.slice oR m.p.ring.length cR)) m.p∧RdS w.heap.size w ot m.t:=by
 obtain ⟨vl,vb,vr,vt,j0,j1,p0,p1,t0,t1,e,kk,hj,hp,ht⟩:=h;have cj:=hj.cap;obtain ⟨vl',e1,o,c,e1',r1⟩:=hj.rd;obtain ⟨ob,cb,oR,cR,e2⟩:=hp.opn;obtain ⟨vt',e3,ot,ct,e3',r3⟩:=ht.rd
 simp only [Value.agg.injEq,Array.mk.injEq,List.cons.injEq,and_true,true_and] at e1 e2 e3
 obtain ⟨e21,e22⟩:=e2;subst e1 e1' e3 e3' e21 e22
 exact ⟨o,c,ob,cb,oR,cR,ot,ct,e,r1.le (by omega),capJm.one cj,hp.rd.le (by omega),r3.le (by omega)⟩
end Go.Proofs.YtpneolgdghbinaaGreat
