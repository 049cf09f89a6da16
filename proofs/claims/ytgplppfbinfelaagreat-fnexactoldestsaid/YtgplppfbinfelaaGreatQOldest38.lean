/- Several texts in one: SPw2, SPn, SOwn4, SPNew, SBBox, ShBal3, SRepl, SRepl2, BalIn. -/
import Derived.Great.BuildSlice
import Derived.Test.YtgplppfbinfelaaGreatQOldest37
namespace Go.Proofs.YtgplppfbinfelaaGreat
open Go.ChangeShapes Go.WideShapes Go.ChangeAt Go.RowKit Go.Joins
set_option linter.unusedVariables false
set_option linter.unusedSimpArgs false
set_option maxRecDepth 100000
set_option maxHeartbeats 40000000
def layT:Lay Pt:=⟨24,ptL,ptZ,fun _=> rfl⟩
theorem infoPt:(Tryz.prog.info? 299).map (fun i=> (i.zero,i.size,i.bytes))=some (some (.agg #[.bool false,.int .i64 0,.int .i64 0,.bool false,.int .i64 0,.int .i64 0,.bool false,.int .i64 0,.int .i64 0,.bool false,.int .i64 0,.int .i64 0,.bool false,.int .i64 0,.int .i64 0,.bool false,.int .i64 0,.int .i64 0,.bool false,.int .i64 0,.int .i64 0,.bool false,.int .i64 0,.int .i64 0]),24,192):=by kernel_rfl
theorem ptL_one (f:Pt):∀u∈layT.cs f,u.oneCell'=true:=fun v hv=> by
 have hv':v∈ptL f:=hv
 unfold ptL at hv'
 simp only [List.mem_flatMap,layP,List.mem_cons,List.not_mem_nil,or_false] at hv'
 obtain ⟨a,_,rfl|rfl|rfl⟩:=hv' <;> rfl
theorem appT:AppOk layT 253 299:=⟨Tryz.underlying253,⟨_,_,infoPt,rfl,by decide⟩,by decide,ptL_one⟩
theorem fill_pt (f:Pt) (s:Nat) (z:Value) (hs:s=24) (hz:z.cells.size=24):Instr.fill (fun i=> some (i * s,s)) ((Array.range (1 * s)).map (z.cells[· % z.cells.size]!)) [(0,ptv f)]=some (ptA f):=by
 subst hs
 have h:=Great.fill_whole (s:=24) (by decide) [ptv f] ((Array.range (1 * 24)).map (z.cells[· % z.cells.size]!)) (fun v hv=> by simp at hv;subst hv;rfl) (by simp)
 simpa [ptv,Value.cells] using h
theorem wpList_one_pt {ops:Array Oper} {rest:List Oper} {o:Oper} {a:Act} {w:World} {Q:Exit→Act→World→Prop} (hgd:o.guard=none) (x:Operand) (ho:o.op=.buildSlice 253 1 #[(0,x)]) (f:Pt) (hx:a.eval x=ptv f)
  (h:wpList Tryz.prog ops Q rest (a.put o.dst (.slice (some ⟨w.heap.size,0,none⟩) 1 1)) (w.alloc (.cells (ptA f) 299))):wpList Tryz.prog ops Q (o::rest) a w:=by
 have hi:=infoPt
 cases hq:Tryz.prog.info? 299 with
 |none=> simp [hq] at hi
 |some i=>
  simp [hq] at hi
  refine wpList_buildSlice hgd _ 299 1 _ ho (ptA f) i _ Tryz.underlying253 hq hi.1 (by rw [hi.2.1];decide) (by rw [hi.2.1];decide) ?_ h
  simp only [List.map_toArray,List.map_cons,List.map_nil,hx]
  exact fill_pt f _ _ hi.2.1 rfl
theorem one_ownT (w:World) (f:Pt):ownL layT 299 (w.alloc (.cells (ptA f) 299)) w.heap.size (.slice (some ⟨w.heap.size,0,none⟩) 1 1) [f]:=
 ⟨by simp [layT,ptL_len],.inr ⟨w.heap.size,1,ptA f,rfl,Nat.le_refl _,heap_alloc_new w _,by simp,by unfold maxLen;omega,by rw [ptA_size];rfl,by simp [layT,ptA];exact List.take_of_length_le (by rw [ptL_len];exact Nat.le_refl _)⟩⟩
theorem setQ_below {C:Nat} {w W:World} {B:Nat} (h:Below C w W) (hB:C≤B) (x y z:Value):Below C w (setP W B x y z):=((h.setCell (p:=⟨B,0,none⟩) hB _).setCell (p:=⟨B,1,none⟩) hB _).setCell (p:=⟨B,2,none⟩) hB _
theorem rd_take2 {C:Nat} {w:World} {o:Option Addr} {fs:List Pt} (h:RdL layT C w o fs):RdL layT C w o (fs.take 2):=by
 rcases h with h|⟨b,off,ho,hb,r⟩
 ·left;rw [h];rfl
 ·refine .inr ⟨b,off,ho,hb,fun i hi j hj=> ?_⟩
  have h1:i < 2:=by simp at hi;omega
  have h2:i < fs.length:=by simp at hi;omega
  have e:(fs.take 2).getD i layT.d=fs.getD i layT.d:=by simp [List.getD_eq_getElem?_getD,List.getElem?_take,h1]
  rw [e];exact r i h2 j hj
abbrev polv (key:Int) (vb vr:Value):Value:=.agg #[.int .i64 key,vb,vr]
theorem with_0 (key:Int) (ob:Option Addr) (nb cb:Nat) (oR:Option Addr) (cR:Nat) (o:Option Addr) (cap:Nat) (l:List Bk) (w:World) (hG:RdL layT w.heap.size w oR ([]:List Pt)) (hc:0≤cR) (hn:oR=none→cR=0) (hR:RdK w.heap.size w o l) (hlen:l.length≤1048576) (hk:keyB key=true) (hl:backsOkB l=true):
  Calls Tryz.prog 174 #[polv key (.slice ob nb cb) (.slice oR 0 cR),.slice o l.length cap] w fun e w'=> ∃o2 c2,e=.returned (polv key (.slice o l.length cap) (.slice o2 ((newF key l::([]:List Pt).take 2).length) c2))∧ownL layT 299 w' w.heap.size (.slice o2 ((newF key l::([]:List Pt).take 2).length) c2) (newF key l::([]:List Pt).take 2)∧Below w.heap.size w w':=by
 obtain ⟨W0,hW0⟩:∃W,((w.alloc (.cells #[.int .i64 key,.slice ob nb cb,.slice oR 0 cR] 255)).alloc (.cells #[.int .i64 0,.slice none 0 0,.slice none 0 0] 255))=W:=⟨_,rfl⟩
 have hb_W0:Below w.heap.size w W0:=by rw [←hW0];exact (((Below.refl _ _).alloc (Nat.le_refl _) _).alloc (by simp <;> omega) _)
 have HB:=hide hb_W0
 clear hb_W0
 have zz:w.heap.size < W0.heap.size:=by rw [←hW0];simp <;> omega
 have z0:W0.cell? ⟨w.heap.size,0,none⟩=some (.int .i64 key):=by rw [←hW0];simp [go_sem]
 have z1:W0.cell? ⟨w.heap.size,1,none⟩=some (.slice ob nb cb):=by rw [←hW0];simp [go_sem]
 have z2:W0.cell? ⟨w.heap.size,2,none⟩=some (.slice oR 0 cR):=by rw [←hW0];simp [go_sem]
 have zr:w.heap.size+1 < W0.heap.size:=by rw [←hW0];simp
 have r0:W0.cell? ⟨w.heap.size+1,0,none⟩=some (.int .i64 0):=by rw [←hW0];simp [go_sem]
 have r1:W0.cell? ⟨w.heap.size+1,1,none⟩=some (.slice none 0 0):=by rw [←hW0];simp [go_sem]
 have r2:W0.cell? ⟨w.heap.size+1,2,none⟩=some (.slice none 0 0):=by rw [←hW0];simp [go_sem]
 have fr0:W0.frozen? ⟨w.heap.size+1,0,none⟩=false:=by rw [←hW0];simp [go_sem]
 have fr1:W0.frozen? ⟨w.heap.size+1,1,none⟩=false:=by rw [←hW0];simp [go_sem]
 have fr2:W0.frozen? ⟨w.heap.size+1,2,none⟩=false:=by rw [←hW0];simp [go_sem]
 have hzr:=zr
 have HT:=hide (newestTable_any key o cap l W0 ((hR.kept HB.out (Nat.le_refl _)).le HB.out.size) hlen hk hl)
 have HG:=hide (show RdL layT w.heap.size w oR ([]:List Pt) from rd_take2 hG)
 clear hR hG hk hl
 obtain ⟨f,hf⟩:∃f,newF key l=f:=⟨_,rfl⟩
 rw [hf] at HT ⊢
 clear hf
 go_enter Tryz.func174,Tryz.ntmps174
 go_wp2_with fail
 refine (HT.out).mono ?_
 rintro e v1 ⟨rfl,hb⟩
 replace z0:=bC hb z0 zz
 replace z1:=bC hb z1 zz
 replace z2:=bC hb z2 zz
 replace zz:=Nat.lt_of_lt_of_le zz hb.size
 replace r0:=bC hb r0 zr
 replace r1:=bC hb r1 zr
 replace r2:=bC hb r2 zr
 replace fr0:=bF hb fr0 zr
 replace fr1:=bF hb fr1 zr
 replace fr2:=bF hb fr2 zr
 replace zr:=Nat.lt_of_lt_of_le zr hb.size
 replace HB:=hide (HB.out.trans (hb.mono HB.out.size))
 clear hb
 have hsz:=HB.out.size
 obtain ⟨W2,hW2⟩:∃W,v1.alloc (.cells (ptA f) 299)=W:=⟨_,rfl⟩
 have hb_W2:Below v1.heap.size v1 W2:=by rw [←hW2];exact (Below.refl _ _).alloc (Nat.le_refl _) _
 have HO:=hide (show ownL layT 299 W2 v1.heap.size (.slice (some ⟨v1.heap.size,0,none⟩) 1 1) [f] by rw [←hW2];exact one_ownT v1 f)
 have hv2:v1.heap.size≤W2.heap.size:=hb_W2.size
 have hzv:=zr
 replace z0:=bC hb_W2 z0 zz
 replace z1:=bC hb_W2 z1 zz
 replace z2:=bC hb_W2 z2 zz
 replace zz:=Nat.lt_of_lt_of_le zz hb_W2.size
 replace r0:=bC hb_W2 r0 zr
 replace r1:=bC hb_W2 r1 zr
 replace r2:=bC hb_W2 r2 zr
 replace fr0:=bF hb_W2 fr0 zr
 replace fr1:=bF hb_W2 fr1 zr
 replace fr2:=bF hb_W2 fr2 zr
 replace zr:=Nat.lt_of_lt_of_le zr hb_W2.size
 replace HB:=hide (HB.out.trans (hb_W2.mono HB.out.size))
 clear hb_W2
 go_wp2_with (first|(refine wpList_one_pt rfl (.tmp 9) rfl f rfl ?_;rw [hW2])|(at_builtin;refine wpList_append_lay appT rfl (.tmp 11) (.tmp 18) rfl v1.heap.size _ [f] rfl HO.out oR cR W2.heap.size ([]:List Pt) 0 rfl rfl hn ((HG.out.kept HB.out (Nat.le_refl _)).le HB.out.size) (by simp) hv2 ?_))
 intro v6 w6 ho6 hg6 _
 obtain ⟨o6,c6,e6,_⟩:=ownL.open (L:=layT) ho6
 subst e6
 have hb6:Below v1.heap.size W2 w6:=(Below.refl _ _).mono hv2|>.grown hg6 hv2 (fun k h=> (HO.out.lt k h).1)
 have HO6:=hide ho6
 clear ho6 hg6 HO
 replace z0:=bC hb6 z0 (show _ < _ by omega)
 replace z1:=bC hb6 z1 (show _ < _ by omega)
 replace z2:=bC hb6 z2 (show _ < _ by omega)
 replace r0:=bC hb6 r0 (show _ < _ by omega)
 replace fr0:=bF hb6 fr0 (show _ < _ by omega)
 replace r1:=bC hb6 r1 (show _ < _ by omega)
 replace fr1:=bF hb6 fr1 (show _ < _ by omega)
 replace r2:=bC hb6 r2 (show _ < _ by omega)
 replace fr2:=bF hb6 fr2 (show _ < _ by omega)
 have HB6:=hide (HB.out.trans (hb6.mono hsz))
 clear hb6 HB
 go_wp2
 refine bodyPost_ret (v:=polv key (.slice o l.length cap) (.slice o6 ([f]++([]:List Pt)).length c6)) (by simp [results,Tryz.results174,go_sem,r0,r1,r2]) rfl ⟨o6,c6,rfl, ?_,setQ_below HB6.out (Nat.le_succ _) _ _ _⟩
 exact own_mono (own_low (own_low (own_low HO6.out hzv 0 _) hzv 1 _) hzv 2 _) hsz
theorem with_1 (key:Int) (ob:Option Addr) (nb cb:Nat) (oR:Option Addr) (cR:Nat) (o:Option Addr) (cap:Nat) (l:List Bk) (w:World) (a:Pt) (hG:RdL layT w.heap.size w oR ([a]:List Pt)) (hc:1≤cR) (hn:oR=none→cR=0) (hR:RdK w.heap.size w o l) (hlen:l.length≤1048576) (hk:keyB key=true) (hl:backsOkB l=true):
  Calls Tryz.prog 174 #[polv key (.slice ob nb cb) (.slice oR 1 cR),.slice o l.length cap] w fun e w'=> ∃o2 c2,e=.returned (polv key (.slice o l.length cap) (.slice o2 ((newF key l::([a]:List Pt).take 2).length) c2))∧ownL layT 299 w' w.heap.size (.slice o2 ((newF key l::([a]:List Pt).take 2).length) c2) (newF key l::([a]:List Pt).take 2)∧Below w.heap.size w w':=by
 obtain ⟨W0,hW0⟩:∃W,((w.alloc (.cells #[.int .i64 key,.slice ob nb cb,.slice oR 1 cR] 255)).alloc (.cells #[.int .i64 0,.slice none 0 0,.slice none 0 0] 255))=W:=⟨_,rfl⟩
 have hb_W0:Below w.heap.size w W0:=by rw [←hW0];exact (((Below.refl _ _).alloc (Nat.le_refl _) _).alloc (by simp <;> omega) _)
 have HB:=hide hb_W0
 clear hb_W0
 have zz:w.heap.size < W0.heap.size:=by rw [←hW0];simp <;> omega
 have z0:W0.cell? ⟨w.heap.size,0,none⟩=some (.int .i64 key):=by rw [←hW0];simp [go_sem]
 have z1:W0.cell? ⟨w.heap.size,1,none⟩=some (.slice ob nb cb):=by rw [←hW0];simp [go_sem]
 have z2:W0.cell? ⟨w.heap.size,2,none⟩=some (.slice oR 1 cR):=by rw [←hW0];simp [go_sem]
 have zr:w.heap.size+1 < W0.heap.size:=by rw [←hW0];simp
 have r0:W0.cell? ⟨w.heap.size+1,0,none⟩=some (.int .i64 0):=by rw [←hW0];simp [go_sem]
 have r1:W0.cell? ⟨w.heap.size+1,1,none⟩=some (.slice none 0 0):=by rw [←hW0];simp [go_sem]
 have r2:W0.cell? ⟨w.heap.size+1,2,none⟩=some (.slice none 0 0):=by rw [←hW0];simp [go_sem]
 have fr0:W0.frozen? ⟨w.heap.size+1,0,none⟩=false:=by rw [←hW0];simp [go_sem]
 have fr1:W0.frozen? ⟨w.heap.size+1,1,none⟩=false:=by rw [←hW0];simp [go_sem]
 have fr2:W0.frozen? ⟨w.heap.size+1,2,none⟩=false:=by rw [←hW0];simp [go_sem]
 have hzr:=zr
 have HT:=hide (newestTable_any key o cap l W0 ((hR.kept HB.out (Nat.le_refl _)).le HB.out.size) hlen hk hl)
 have HG:=hide (show RdL layT w.heap.size w oR ([a]:List Pt) from rd_take2 hG)
 clear hR hG hk hl
 obtain ⟨f,hf⟩:∃f,newF key l=f:=⟨_,rfl⟩
 rw [hf] at HT ⊢
 clear hf
 go_enter Tryz.func174,Tryz.ntmps174
 go_wp2_with fail
 refine (HT.out).mono ?_
 rintro e v1 ⟨rfl,hb⟩
 replace z0:=bC hb z0 zz
 replace z1:=bC hb z1 zz
 replace z2:=bC hb z2 zz
 replace zz:=Nat.lt_of_lt_of_le zz hb.size
 replace r0:=bC hb r0 zr
 replace r1:=bC hb r1 zr
 replace r2:=bC hb r2 zr
 replace fr0:=bF hb fr0 zr
 replace fr1:=bF hb fr1 zr
 replace fr2:=bF hb fr2 zr
 replace zr:=Nat.lt_of_lt_of_le zr hb.size
 replace HB:=hide (HB.out.trans (hb.mono HB.out.size))
 clear hb
 have hsz:=HB.out.size
 obtain ⟨W2,hW2⟩:∃W,v1.alloc (.cells (ptA f) 299)=W:=⟨_,rfl⟩
 have hb_W2:Below v1.heap.size v1 W2:=by rw [←hW2];exact (Below.refl _ _).alloc (Nat.le_refl _) _
 have HO:=hide (show ownL layT 299 W2 v1.heap.size (.slice (some ⟨v1.heap.size,0,none⟩) 1 1) [f] by rw [←hW2];exact one_ownT v1 f)
 have hv2:v1.heap.size≤W2.heap.size:=hb_W2.size
 have hzv:=zr
 replace z0:=bC hb_W2 z0 zz
 replace z1:=bC hb_W2 z1 zz
 replace z2:=bC hb_W2 z2 zz
 replace zz:=Nat.lt_of_lt_of_le zz hb_W2.size
 replace r0:=bC hb_W2 r0 zr
 replace r1:=bC hb_W2 r1 zr
 replace r2:=bC hb_W2 r2 zr
 replace fr0:=bF hb_W2 fr0 zr
 replace fr1:=bF hb_W2 fr1 zr
 replace fr2:=bF hb_W2 fr2 zr
 replace zr:=Nat.lt_of_lt_of_le zr hb_W2.size
 replace HB:=hide (HB.out.trans (hb_W2.mono HB.out.size))
 clear hb_W2
 go_wp2_with (first|(refine wpList_one_pt rfl (.tmp 9) rfl f rfl ?_;rw [hW2])|(at_builtin;refine wpList_append_lay appT rfl (.tmp 11) (.tmp 18) rfl v1.heap.size _ [f] rfl HO.out oR cR W2.heap.size ([a]:List Pt) 1 rfl rfl hn ((HG.out.kept HB.out (Nat.le_refl _)).le HB.out.size) (by simp) hv2 ?_))
 intro v6 w6 ho6 hg6 _
 obtain ⟨o6,c6,e6,_⟩:=ownL.open (L:=layT) ho6
 subst e6
 have hb6:Below v1.heap.size W2 w6:=(Below.refl _ _).mono hv2|>.grown hg6 hv2 (fun k h=> (HO.out.lt k h).1)
 have HO6:=hide ho6
 clear ho6 hg6 HO
 replace z0:=bC hb6 z0 (show _ < _ by omega)
 replace z1:=bC hb6 z1 (show _ < _ by omega)
 replace z2:=bC hb6 z2 (show _ < _ by omega)
 replace r0:=bC hb6 r0 (show _ < _ by omega)
 replace fr0:=bF hb6 fr0 (show _ < _ by omega)
 replace r1:=bC hb6 r1 (show _ < _ by omega)
 replace fr1:=bF hb6 fr1 (show _ < _ by omega)
 replace r2:=bC hb6 r2 (show _ < _ by omega)
 replace fr2:=bF hb6 fr2 (show _ < _ by omega)
 have HB6:=hide (HB.out.trans (hb6.mono hsz))
 clear hb6 HB
 go_wp2
 refine bodyPost_ret (v:=polv key (.slice o l.length cap) (.slice o6 ([f]++([a]:List Pt)).length c6)) (by simp [results,Tryz.results174,go_sem,r0,r1,r2]) rfl ⟨o6,c6,rfl, ?_,setQ_below HB6.out (Nat.le_succ _) _ _ _⟩
 exact own_mono (own_low (own_low (own_low HO6.out hzv 0 _) hzv 1 _) hzv 2 _) hsz
theorem with_2 (key:Int) (ob:Option Addr) (nb cb:Nat) (oR:Option Addr) (cR:Nat) (o:Option Addr) (cap:Nat) (l:List Bk) (w:World) (a b:Pt) (hG:RdL layT w.heap.size w oR ([a,b]:List Pt)) (hc:2≤cR) (hn:oR=none→cR=0) (hR:RdK w.heap.size w o l) (hlen:l.length≤1048576) (hk:keyB key=true) (hl:backsOkB l=true):
  Calls Tryz.prog 174 #[polv key (.slice ob nb cb) (.slice oR 2 cR),.slice o l.length cap] w fun e w'=> ∃o2 c2,e=.returned (polv key (.slice o l.length cap) (.slice o2 ((newF key l::([a,b]:List Pt).take 2).length) c2))∧ownL layT 299 w' w.heap.size (.slice o2 ((newF key l::([a,b]:List Pt).take 2).length) c2) (newF key l::([a,b]:List Pt).take 2)∧Below w.heap.size w w':=by
 obtain ⟨W0,hW0⟩:∃W,((w.alloc (.cells #[.int .i64 key,.slice ob nb cb,.slice oR 2 cR] 255)).alloc (.cells #[.int .i64 0,.slice none 0 0,.slice none 0 0] 255))=W:=⟨_,rfl⟩
 have hb_W0:Below w.heap.size w W0:=by rw [←hW0];exact (((Below.refl _ _).alloc (Nat.le_refl _) _).alloc (by simp <;> omega) _)
 have HB:=hide hb_W0
 clear hb_W0
 have zz:w.heap.size < W0.heap.size:=by rw [←hW0];simp <;> omega
 have z0:W0.cell? ⟨w.heap.size,0,none⟩=some (.int .i64 key):=by rw [←hW0];simp [go_sem]
 have z1:W0.cell? ⟨w.heap.size,1,none⟩=some (.slice ob nb cb):=by rw [←hW0];simp [go_sem]
 have z2:W0.cell? ⟨w.heap.size,2,none⟩=some (.slice oR 2 cR):=by rw [←hW0];simp [go_sem]
 have zr:w.heap.size+1 < W0.heap.size:=by rw [←hW0];simp
 have r0:W0.cell? ⟨w.heap.size+1,0,none⟩=some (.int .i64 0):=by rw [←hW0];simp [go_sem]
 have r1:W0.cell? ⟨w.heap.size+1,1,none⟩=some (.slice none 0 0):=by rw [←hW0];simp [go_sem]
 have r2:W0.cell? ⟨w.heap.size+1,2,none⟩=some (.slice none 0 0):=by rw [←hW0];simp [go_sem]
 have fr0:W0.frozen? ⟨w.heap.size+1,0,none⟩=false:=by rw [←hW0];simp [go_sem]
 have fr1:W0.frozen? ⟨w.heap.size+1,1,none⟩=false:=by rw [←hW0];simp [go_sem]
 have fr2:W0.frozen? ⟨w.heap.size+1,2,none⟩=false:=by rw [←hW0];simp [go_sem]
 have hzr:=zr
 have HT:=hide (newestTable_any key o cap l W0 ((hR.kept HB.out (Nat.le_refl _)).le HB.out.size) hlen hk hl)
 have HG:=hide (show RdL layT w.heap.size w oR ([a,b]:List Pt) from rd_take2 hG)
 clear hR hG hk hl
 obtain ⟨f,hf⟩:∃f,newF key l=f:=⟨_,rfl⟩
 rw [hf] at HT ⊢
 clear hf
 go_enter Tryz.func174,Tryz.ntmps174
 go_wp2_with fail
 refine (HT.out).mono ?_
 rintro e v1 ⟨rfl,hb⟩
 replace z0:=bC hb z0 zz
 replace z1:=bC hb z1 zz
 replace z2:=bC hb z2 zz
 replace zz:=Nat.lt_of_lt_of_le zz hb.size
 replace r0:=bC hb r0 zr
 replace r1:=bC hb r1 zr
 replace r2:=bC hb r2 zr
 replace fr0:=bF hb fr0 zr
 replace fr1:=bF hb fr1 zr
 replace fr2:=bF hb fr2 zr
 replace zr:=Nat.lt_of_lt_of_le zr hb.size
 replace HB:=hide (HB.out.trans (hb.mono HB.out.size))
 clear hb
 have hsz:=HB.out.size
 obtain ⟨W2,hW2⟩:∃W,v1.alloc (.cells (ptA f) 299)=W:=⟨_,rfl⟩
 have hb_W2:Below v1.heap.size v1 W2:=by rw [←hW2];exact (Below.refl _ _).alloc (Nat.le_refl _) _
 have HO:=hide (show ownL layT 299 W2 v1.heap.size (.slice (some ⟨v1.heap.size,0,none⟩) 1 1) [f] by rw [←hW2];exact one_ownT v1 f)
 have hv2:v1.heap.size≤W2.heap.size:=hb_W2.size
 have hzv:=zr
 replace z0:=bC hb_W2 z0 zz
 replace z1:=bC hb_W2 z1 zz
 replace z2:=bC hb_W2 z2 zz
 replace zz:=Nat.lt_of_lt_of_le zz hb_W2.size
 replace r0:=bC hb_W2 r0 zr
 replace r1:=bC hb_W2 r1 zr
 replace r2:=bC hb_W2 r2 zr
 replace fr0:=bF hb_W2 fr0 zr
 replace fr1:=bF hb_W2 fr1 zr
 replace fr2:=bF hb_W2 fr2 zr
 replace zr:=Nat.lt_of_lt_of_le zr hb_W2.size
 replace HB:=hide (HB.out.trans (hb_W2.mono HB.out.size))
 clear hb_W2
 go_wp2_with (first|(refine wpList_one_pt rfl (.tmp 9) rfl f rfl ?_;rw [hW2])|(at_builtin;refine wpList_append_lay appT rfl (.tmp 11) (.tmp 18) rfl v1.heap.size _ [f] rfl HO.out oR cR W2.heap.size ([a,b]:List Pt) 2 rfl rfl hn ((HG.out.kept HB.out (Nat.le_refl _)).le HB.out.size) (by simp) hv2 ?_))
 intro v6 w6 ho6 hg6 _
 obtain ⟨o6,c6,e6,_⟩:=ownL.open (L:=layT) ho6
 subst e6
 have hb6:Below v1.heap.size W2 w6:=(Below.refl _ _).mono hv2|>.grown hg6 hv2 (fun k h=> (HO.out.lt k h).1)
 have HO6:=hide ho6
 clear ho6 hg6 HO
 replace z0:=bC hb6 z0 (show _ < _ by omega)
 replace z1:=bC hb6 z1 (show _ < _ by omega)
 replace z2:=bC hb6 z2 (show _ < _ by omega)
 replace r0:=bC hb6 r0 (show _ < _ by omega)
 replace fr0:=bF hb6 fr0 (show _ < _ by omega)
 replace r1:=bC hb6 r1 (show _ < _ by omega)
 replace fr1:=bF hb6 fr1 (show _ < _ by omega)
 replace r2:=bC hb6 r2 (show _ < _ by omega)
 replace fr2:=bF hb6 fr2 (show _ < _ by omega)
 have HB6:=hide (HB.out.trans (hb6.mono hsz))
 clear hb6 HB
 go_wp2
 refine bodyPost_ret (v:=polv key (.slice o l.length cap) (.slice o6 ([f]++([a,b]:List Pt)).length c6)) (by simp [results,Tryz.results174,go_sem,r0,r1,r2]) rfl ⟨o6,c6,rfl, ?_,setQ_below HB6.out (Nat.le_succ _) _ _ _⟩
 exact own_mono (own_low (own_low (own_low HO6.out hzv 0 _) hzv 1 _) hzv 2 _) hsz
theorem with_3 (key:Int) (ob:Option Addr) (nb cb:Nat) (oR:Option Addr) (cR:Nat) (o:Option Addr) (cap:Nat) (l:List Bk) (w:World) (a b c:Pt) (hG:RdL layT w.heap.size w oR ([a,b,c]:List Pt)) (hc:3≤cR) (hn:oR=none→cR=0) (hR:RdK w.heap.size w o l) (hlen:l.length≤1048576) (hk:keyB key=true) (hl:backsOkB l=true):
  Calls Tryz.prog 174 #[polv key (.slice ob nb cb) (.slice oR 3 cR),.slice o l.length cap] w fun e w'=> ∃o2 c2,e=.returned (polv key (.slice o l.length cap) (.slice o2 ((newF key l::([a,b,c]:List Pt).take 2).length) c2))∧ownL layT 299 w' w.heap.size (.slice o2 ((newF key l::([a,b,c]:List Pt).take 2).length) c2) (newF key l::([a,b,c]:List Pt).take 2)∧Below w.heap.size w w':=by
 obtain ⟨W0,hW0⟩:∃W,((w.alloc (.cells #[.int .i64 key,.slice ob nb cb,.slice oR 3 cR] 255)).alloc (.cells #[.int .i64 0,.slice none 0 0,.slice none 0 0] 255))=W:=⟨_,rfl⟩
 have hb_W0:Below w.heap.size w W0:=by rw [←hW0];exact (((Below.refl _ _).alloc (Nat.le_refl _) _).alloc (by simp <;> omega) _)
 have HB:=hide hb_W0
 clear hb_W0
 have zz:w.heap.size < W0.heap.size:=by rw [←hW0];simp <;> omega
 have z0:W0.cell? ⟨w.heap.size,0,none⟩=some (.int .i64 key):=by rw [←hW0];simp [go_sem]
 have z1:W0.cell? ⟨w.heap.size,1,none⟩=some (.slice ob nb cb):=by rw [←hW0];simp [go_sem]
 have z2:W0.cell? ⟨w.heap.size,2,none⟩=some (.slice oR 3 cR):=by rw [←hW0];simp [go_sem]
 have zr:w.heap.size+1 < W0.heap.size:=by rw [←hW0];simp
 have r0:W0.cell? ⟨w.heap.size+1,0,none⟩=some (.int .i64 0):=by rw [←hW0];simp [go_sem]
 have r1:W0.cell? ⟨w.heap.size+1,1,none⟩=some (.slice none 0 0):=by rw [←hW0];simp [go_sem]
 have r2:W0.cell? ⟨w.heap.size+1,2,none⟩=some (.slice none 0 0):=by rw [←hW0];simp [go_sem]
 have fr0:W0.frozen? ⟨w.heap.size+1,0,none⟩=false:=by rw [←hW0];simp [go_sem]
 have fr1:W0.frozen? ⟨w.heap.size+1,1,none⟩=false:=by rw [←hW0];simp [go_sem]
 have fr2:W0.frozen? ⟨w.heap.size+1,2,none⟩=false:=by rw [←hW0];simp [go_sem]
 have hzr:=zr
 have HT:=hide (newestTable_any key o cap l W0 ((hR.kept HB.out (Nat.le_refl _)).le HB.out.size) hlen hk hl)
 have HG:=hide (show RdL layT w.heap.size w oR ([a,b]:List Pt) from rd_take2 hG)
 clear hR hG hk hl
 obtain ⟨f,hf⟩:∃f,newF key l=f:=⟨_,rfl⟩
 rw [hf] at HT ⊢
 clear hf
 go_enter Tryz.func174,Tryz.ntmps174
 go_wp2_with fail
 refine (HT.out).mono ?_
 rintro e v1 ⟨rfl,hb⟩
 replace z0:=bC hb z0 zz
 replace z1:=bC hb z1 zz
 replace z2:=bC hb z2 zz
 replace zz:=Nat.lt_of_lt_of_le zz hb.size
 replace r0:=bC hb r0 zr
 replace r1:=bC hb r1 zr
 replace r2:=bC hb r2 zr
 replace fr0:=bF hb fr0 zr
 replace fr1:=bF hb fr1 zr
 replace fr2:=bF hb fr2 zr
 replace zr:=Nat.lt_of_lt_of_le zr hb.size
 replace HB:=hide (HB.out.trans (hb.mono HB.out.size))
 clear hb
 have hsz:=HB.out.size
 obtain ⟨W2,hW2⟩:∃W,v1.alloc (.cells (ptA f) 299)=W:=⟨_,rfl⟩
 have hb_W2:Below v1.heap.size v1 W2:=by rw [←hW2];exact (Below.refl _ _).alloc (Nat.le_refl _) _
 have HO:=hide (show ownL layT 299 W2 v1.heap.size (.slice (some ⟨v1.heap.size,0,none⟩) 1 1) [f] by rw [←hW2];exact one_ownT v1 f)
 have hv2:v1.heap.size≤W2.heap.size:=hb_W2.size
 have hzv:=zr
 replace z0:=bC hb_W2 z0 zz
 replace z1:=bC hb_W2 z1 zz
 replace z2:=bC hb_W2 z2 zz
 replace zz:=Nat.lt_of_lt_of_le zz hb_W2.size
 replace r0:=bC hb_W2 r0 zr
 replace r1:=bC hb_W2 r1 zr
 replace r2:=bC hb_W2 r2 zr
 replace fr0:=bF hb_W2 fr0 zr
 replace fr1:=bF hb_W2 fr1 zr
 replace fr2:=bF hb_W2 fr2 zr
 replace zr:=Nat.lt_of_lt_of_le zr hb_W2.size
 replace HB:=hide (HB.out.trans (hb_W2.mono HB.out.size))
 clear hb_W2
 go_wp2_with (first|(refine wpList_one_pt rfl (.tmp 9) rfl f rfl ?_;rw [hW2])|(at_builtin;refine wpList_append_lay appT rfl (.tmp 11) (.tmp 18) rfl v1.heap.size _ [f] rfl HO.out oR cR W2.heap.size ([a,b]:List Pt) 2 rfl rfl hn ((HG.out.kept HB.out (Nat.le_refl _)).le HB.out.size) (by simp) hv2 ?_))
 intro v6 w6 ho6 hg6 _
 obtain ⟨o6,c6,e6,_⟩:=ownL.open (L:=layT) ho6
 subst e6
 have hb6:Below v1.heap.size W2 w6:=(Below.refl _ _).mono hv2|>.grown hg6 hv2 (fun k h=> (HO.out.lt k h).1)
 have HO6:=hide ho6
 clear ho6 hg6 HO
 replace z0:=bC hb6 z0 (show _ < _ by omega)
 replace z1:=bC hb6 z1 (show _ < _ by omega)
 replace z2:=bC hb6 z2 (show _ < _ by omega)
 replace r0:=bC hb6 r0 (show _ < _ by omega)
 replace fr0:=bF hb6 fr0 (show _ < _ by omega)
 replace r1:=bC hb6 r1 (show _ < _ by omega)
 replace fr1:=bF hb6 fr1 (show _ < _ by omega)
 replace r2:=bC hb6 r2 (show _ < _ by omega)
 replace fr2:=bF hb6 fr2 (show _ < _ by omega)
 have HB6:=hide (HB.out.trans (hb6.mono hsz))
 clear hb6 HB
 go_wp2
 refine bodyPost_ret (v:=polv key (.slice o l.length cap) (.slice o6 ([f]++([a,b]:List Pt)).length c6)) (by simp [results,Tryz.results174,go_sem,r0,r1,r2]) rfl ⟨o6,c6,rfl, ?_,setQ_below HB6.out (Nat.le_succ _) _ _ _⟩
 exact own_mono (own_low (own_low (own_low HO6.out hzv 0 _) hzv 1 _) hzv 2 _) hsz
theorem with_any (key:Int) (ob:Option Addr) (nb cb:Nat) (oR:Option Addr) (cR:Nat) (o:Option Addr) (cap:Nat) (l:List Bk) (w:World) (fs:List Pt) (hf3:fs.length≤3) (hG:RdL layT w.heap.size w oR fs) (hc:fs.length≤cR) (hn:oR=none→cR=0) (hR:RdK w.heap.size w o l) (hlen:l.length≤1048576) (hk:keyB key=true) (hl:backsOkB l=true):
  Calls Tryz.prog 174 #[polv key (.slice ob nb cb) (.slice oR fs.length cR),.slice o l.length cap] w fun e w'=> ∃o2 c2,e=.returned (polv key (.slice o l.length cap) (.slice o2 ((newF key l::fs.take 2).length) c2))∧ownL layT 299 w' w.heap.size (.slice o2 ((newF key l::fs.take 2).length) c2) (newF key l::fs.take 2)∧Below w.heap.size w w':=by
 match fs,hf3 with
 |[],_=> exact with_0 key ob nb cb oR cR o cap l w hG hc hn hR hlen hk hl
 |[a],_=> exact with_1 key ob nb cb oR cR o cap l w a hG hc hn hR hlen hk hl
 |[a,b],_=> exact with_2 key ob nb cb oR cR o cap l w a b hG hc hn hR hlen hk hl
 |[a,b,c],_=> exact with_3 key ob nb cb oR cR o cap l w a b c hG hc hn hR hlen hk hl
theorem range_pt {W:World} {g:Nat} {f:Pt} (hg:W.heap[g]? =some (.cells (ptA f) 299 (0,0))):W.rangeAt g 0 (ptL f):=fun j v hv=> by
 rw [Nat.zero_add,cell_of_row _ _ j (ptA f) _ (0,0) hg]
 simpa [ptA] using hv
theorem range_kept {w w':World} {b o:Nat} {cs:List Value} (h:w.rangeAt b o cs) (hb:Below w.heap.size w w') (hlt:b < w.heap.size):w'.rangeAt b o cs:=fun j v hv=> (hb.cell (p:=⟨b,o+j,none⟩) hlt).trans (h j v hv)
theorem range_far {w:World} {b o B:Nat} {cs:List Value} (h:w.rangeAt b o cs) (hne:b≠B) (j:Nat) (u:Value):(w.setCell ⟨B,j,none⟩ u).rangeAt b o cs:=fun i v hv=> (cell_far hne).trans (h i v hv)
theorem range_grown {w w':World} {b o:Nat} {cs:List Value} {r:Option Nat} (h:w.rangeAt b o cs) (hg:w.grownBy w' r) (hlt:b < w.heap.size) (hne:some b≠r):w'.rangeAt b o cs:=fun j v hv=> by
 have h1:=h j v hv
 have h2:=hg.block b hlt hne
 simp only [World.cell?,h2] at h1 ⊢
 exact h1
theorem setQ_size (W:World) (B:Nat) (x y z:Value):(setP W B x y z).heap.size=W.heap.size:=by simp [World.setCell]
theorem finK {cur W:World} {B:Nat} {key:Int} {o2:Option Addr} {c2:Nat} {l:List Bk} {z0 z1 z2:Value} (hZ:W.heap[B]? =some (.cells #[z0,z1,z2] 46 (0,0))) (hx:Below cur.heap.size cur W) (hB:cur.heap.size≤B) (ho:ownK W cur.heap.size (.slice o2 l.length c2) l):
  ∃B' o' c',Value.pointer (some ⟨B,0,none⟩)=.pointer (some ⟨B',0,none⟩)∧Hid ((setP W B (.int .i64 key) (.slice o2 l.length c2) (.slice none 0 0)).heap[B']? =some (.cells #[.int .i64 key,.slice o' l.length c',.slice none 0 0] 46 (0,0)))∧Hid (Below cur.heap.size cur (setP W B (.int .i64 key) (.slice o2 l.length c2) (.slice none 0 0)))∧cur.heap.size≤B'∧B' < (setP W B (.int .i64 key) (.slice o2 l.length c2) (.slice none 0 0)).heap.size∧Hid (ownK (setP W B (.int .i64 key) (.slice o2 l.length c2) (.slice none 0 0)) cur.heap.size (.slice o' l.length c') l):=by
 have b1:=box_put hZ 0 (.int .i64 key)
 have b2:=box_put b1 1 (.slice o2 l.length c2)
 have b3:=box_put b2 2 (.slice none 0 0)
 exact ⟨B,o2,c2,rfl,b3,setQ_below hx hB _ _ _,hB,(Array.getElem?_eq_some_iff.1 b3).1,own_putB (own_putB (own_putB ho hZ neP4 0 _) b1 neP4 1 _) b2 neP4 2 _⟩
theorem finKn {cur W:World} {key:Int} {o2:Option Addr} {c2:Nat} {l:List Bk} (hx:Below cur.heap.size cur W) (ho:ownK W cur.heap.size (.slice o2 l.length c2) l):
  ∃B' o' c',Value.pointer (some ⟨W.heap.size,0,none⟩)=.pointer (some ⟨B',0,none⟩)∧Hid ((W.alloc (.cells #[.int .i64 key,.slice o2 l.length c2,.slice none 0 0] 46)).heap[B']? =some (.cells #[.int .i64 key,.slice o' l.length c',.slice none 0 0] 46 (0,0)))∧Hid (Below cur.heap.size cur (W.alloc (.cells #[.int .i64 key,.slice o2 l.length c2,.slice none 0 0] 46)))∧cur.heap.size≤B'∧B' < (W.alloc (.cells #[.int .i64 key,.slice o2 l.length c2,.slice none 0 0] 46)).heap.size∧Hid (ownK (W.alloc (.cells #[.int .i64 key,.slice o2 l.length c2,.slice none 0 0] 46)) cur.heap.size (.slice o' l.length c') l):=
 ⟨W.heap.size,o2,c2,rfl,World.alloc_heap_new W _,hx.alloc hx.size _,hx.size,by simp,own_kept ho ((Below.refl _ _).alloc (Nat.le_refl _) _)⟩
theorem Rw.grow {α:Type} {Q:Nat→Nat→World→Value→α→Prop} {d:α} {xs:List α} {a b:Nat} {w w':World} {hs:List Hd} {L H:Nat→Nat} {r:Option Nat} (hQ:Stps Q) (h:Rw Q d xs a b w hs L H) (hg:w.grownBy w' r) (ho:∀i,i < xs.length→∀g,r=some g→g < L i∨H i≤g):Rw Q d xs a b w' hs L H:=by
 cases r with
 |none=> exact h.step hQ (Stp.grown (lo:=0) (hi:=0) hg (fun b e=> by cases e)) (fun i _=> .inl (Nat.zero_le _))
 |some g=> exact h.step hQ (Stp.grown (lo:=g) (hi:=g+1) hg (fun b e=> by injection e with e;omega)) (fun i hi=> by have:=ho i hi g rfl;omega)
theorem rd_oneH {w:World} {o:Option Addr} {n c:Nat} {T:TypeId}:RdL layH (w.alloc (.cells #[.slice o n c] T)).heap.size (w.alloc (.cells #[.slice o n c] T)) (some ⟨w.heap.size,0,none⟩) [(o,n,c)]:=
 .inr ⟨w.heap.size,0,rfl,by simp,fun i hi j hj=> by
  have e1:i=0:=by simpa using hi
  subst e1
  match j,hj with
  |0,_=> simp [layH]⟩
theorem RdL.range {w:World} {b off:Nat} {fs:List Pt} (h:∀i,i < fs.length→∀j,j < layT.k→w.cell? ⟨b,off+i * layT.k+j,none⟩=(layT.cs (fs.getD i layT.d))[j]?) (i:Nat) (hi:i < fs.length):w.rangeAt b (off+i * 24) (ptL (fs.getD i ptZ)):=fun j v hv=> by
 have hj:j < 24:=by have:=(List.getElem?_eq_some_iff.1 hv).1;rw [ptL_len] at this;exact this
 exact (h i hi j hj).trans hv
theorem rd_stp {B:Nat} {w wc wr:World} {oR:Option Addr} {fs:List Pt} (h:RdL layT w.heap.size w oR fs) (hb:Below w.heap.size w wc) (s:Stp B (B+1) wc wr) (hB:w.heap.size≤B):RdL layT w.heap.size wr oR fs:=by
 rcases h with h|⟨b,off,ho,hlt,r⟩
 ·exact .inl h
 ·refine .inr ⟨b,off,ho,hlt,fun i hi j hj=> ?_⟩
  have h1:=(hb.cell (p:=⟨b,off+i * layT.k+j,none⟩) hlt).trans (r i hi j hj)
  have hl:(layT.cs (fs.getD i layT.d)).length=layT.k:=layT.len _
  rw [List.getElem?_eq_getElem (by omega)] at h1 ⊢
  exact s.cellP h1 (.inl (show b < B by omega))
theorem all_take {mid hi cQ:Nat} {wr:World} {oQ:Option Addr} {hs:List Hd} {L H:Nat→Nat} {fs:List Pt} {n:Nat} (hn:n=fs.length) (h:Rw InT [] ((fs.map ptLL).take n) mid hi wr hs L H) (ho:ownL layH 228 wr mid (.slice oQ n cQ) hs):ownL layH 228 wr mid (.slice oQ n cQ) hs∧Rw InT [] (fs.map ptLL) mid hi wr hs L H:=by
 rw [hn,show fs.length=(fs.map ptLL).length by simp,List.take_length] at h
 exact ⟨ho,h⟩
theorem out_len {oQ:Option Addr} {n cQ:Nat} {L H:Nat→Nat} {fs:List Pt} (hn:n=fs.length) (h:outB (.slice oQ n cQ) n L H):outB (.slice oQ n cQ) (fs.map ptLL).length L H:=by
 rw [List.length_map,←hn];exact h
theorem stp_setQ (W:World) (B:Nat) (x y z:Value):Stp B (B+1) W (setP W B x y z):=((stp_set W B 0 x).trans (stp_set _ B 1 y)).trans (stp_set _ B 2 z)
theorem take_map (fs:List Pt) (i:Nat) (h:i < fs.length):(fs.map ptLL).take (i+1)=(fs.map ptLL).take i++[ptLL (fs.getD i ptZ)]:=by
 have hk:i < (fs.map ptLL).length:=by rw [List.length_map];exact h
 rw [List.take_succ_eq_append_getElem hk]
 simp [h]
theorem Rw.more {v1 w8:World} {mid b0 l2 n:Nat} {hs:List Hd} {L H:Nat→Nat} {xs:List (List (List Int))} {x:List (List Int)} {o4 oQ:Option Addr} {cQ n4 c4:Nat} {O:Obj} (h:Rw InT [] xs mid b0 v1 hs L H) (hxn:xs.length=n) (hb:b0≤l2) (hm:mid≤l2) (hl:l2≤v1.heap.size) (q:InT l2 v1.heap.size v1 (.slice o4 n4 c4) x) (hout:outB (.slice oQ n cQ) n L H) (hlt:∀g,(Value.slice oQ n cQ).ownBlock=some g→g < b0) (hg:(v1.alloc O).grownBy w8 (Value.slice oQ n cQ).ownBlock):
  Rw InT [] (xs++[x]) mid w8.heap.size w8 (hs++[(o4,n4,c4)]) (fun i=> if i < n then L i else l2) (fun i=> if i < n then H i else v1.heap.size):=by
 subst hxn
 have h1:=h.snoc hb hm hl q
 have h2:=h1.kept InT.stp ((Below.refl v1.heap.size v1).alloc (Nat.le_refl _) O)
 have hsz:=hg.size
 rw [World.size_alloc] at hsz
 refine (h2.grow InT.stp hg (fun i hi g e=> ?_)).mono (Nat.le_refl _) (by omega)
 by_cases hi':i < xs.length
 ·simp only [hi',if_true];exact hout i hi' g e
 ·simp only [hi',if_false];have:=hlt g e;omega
theorem stp_more {B:Nat} {wc v1 w8:World} {O:Obj} {r:Option Nat} (s:Stp B (B+1) wc v1) (hg:(v1.alloc O).grownBy w8 r) (hr:∀g,r=some g→wc.heap.size≤g):Stp B (B+1) wc w8:=by
 have hs:=s.size
 have h1:=hg.size
 rw [World.size_alloc] at h1
 refine ⟨hg.os.trans s.os,hg.tape.trans s.tape,hg.output.trans s.output,by omega,fun k hk hn=> ?_⟩
 exact (hg.block k (by simp;omega) (fun e=> by have:=hr k e.symm;omega)).trans ((Below.heap_alloc v1 O k (by omega)).trans (s.block k hk hn))
theorem InPm.mono {lo lo' hi:Nat} {w:World} {v:Value} {m:Pm} (h:InPm lo hi w v m) (hl:lo'≤lo):InPm lo' hi w v m:=by
 obtain ⟨vb,vr,mid,e,k1,k2,h1,h2⟩:=h
 exact ⟨vb,vr,mid,e,by omega,k2,InRow.mono h1 hl (Nat.le_refl _),h2⟩
theorem neBR:(226:TypeId)≠228:=by decide
theorem out_more {v1:World} {b0 l2:Nat} {L H:Nat→Nat} {n:Nat} {oQ o8:Option Addr} {cQ c8:Nat} {O:Obj} (hout:outB (.slice oQ n cQ) n L H) (hH:∀i,i < n→H i≤b0) (hb:b0≤l2) (hl:l2≤v1.heap.size) (hlt:∀g,(Value.slice oQ n cQ).ownBlock=some g→g < b0) (hn:(Value.slice o8 (n+1) c8).ownBlock=(Value.slice oQ n cQ).ownBlock∨(Value.slice o8 (n+1) c8).ownBlock=some (v1.alloc O).heap.size):
  outB (.slice o8 (n+1) c8) (n+1) (fun i=> if i < n then L i else l2) (fun i=> if i < n then H i else v1.heap.size):=fun i hi g e=> by
 rcases hn with hn|hn
 ·rw [hn] at e
  by_cases hi':i < n
  ·simp only [hi',if_true];exact hout i hi' g e
  ·simp only [hi',if_false];have:=hlt g e;omega
 ·rw [hn,World.size_alloc] at e
  have e':v1.heap.size+1=g:=Option.some.inj e
  by_cases hi':i < n
  ·simp only [hi',if_true];have:=hH i hi';omega
  ·simp only [hi',if_false];omega
theorem plain_go (key:Int) (o:Option Addr) (cap:Nat) (l:List Bk) (oR:Option Addr) (cR:Nat) (fs:List Pt) (n:Nat) (hnn:n=fs.length) (w:World) (hR:RdK w.heap.size w o l) (hn:o=none→cap=0) (hlen:l.length≤1048576) (hG:RdL layT w.heap.size w oR fs) (hf3:n≤1048576):
  Calls Tryz.prog 175 #[polv key (.slice o l.length cap) (.slice oR n cR)] w fun e w'=> ∃v,e=.returned v∧InPm w.heap.size w'.heap.size w' v ⟨key,l,fs.map ptLL⟩∧Below w.heap.size w w':=by
 have HNN:=hide hnn
 clear hnn
 obtain ⟨W0,hW0⟩:∃W,((w.alloc (.cells #[.int .i64 key,.slice o l.length cap,.slice oR n cR] 255)).alloc (.cells #[.int .i64 0,.slice none 0 0,.slice none 0 0] 46))=W:=⟨_,rfl⟩
 have hb_W0:Below w.heap.size w W0:=by rw [←hW0];exact (((Below.refl _ _).alloc (Nat.le_refl _) _).alloc (by simp <;> omega) _)
 have HB:=hide hb_W0
 clear hb_W0
 have zz:w.heap.size < W0.heap.size:=by rw [←hW0];simp <;> omega
 have z0:W0.cell? ⟨w.heap.size,0,none⟩=some (.int .i64 key):=by rw [←hW0];simp [go_sem]
 have z1:W0.cell? ⟨w.heap.size,1,none⟩=some (.slice o l.length cap):=by rw [←hW0];simp [go_sem]
 have z2:W0.cell? ⟨w.heap.size,2,none⟩=some (.slice oR n cR):=by rw [←hW0];simp [go_sem]
 have zr:w.heap.size+1 < W0.heap.size:=by rw [←hW0];simp
 have r0:W0.cell? ⟨w.heap.size+1,0,none⟩=some (.int .i64 0):=by rw [←hW0];simp [go_sem]
 have r1:W0.cell? ⟨w.heap.size+1,1,none⟩=some (.slice none 0 0):=by rw [←hW0];simp [go_sem]
 have r2:W0.cell? ⟨w.heap.size+1,2,none⟩=some (.slice none 0 0):=by rw [←hW0];simp [go_sem]
 have fr0:W0.frozen? ⟨w.heap.size+1,0,none⟩=false:=by rw [←hW0];simp [go_sem]
 have fr1:W0.frozen? ⟨w.heap.size+1,1,none⟩=false:=by rw [←hW0];simp [go_sem]
 have fr2:W0.frozen? ⟨w.heap.size+1,2,none⟩=false:=by rw [←hW0];simp [go_sem]
 have HR0:=hide (show W0.heap[w.heap.size+1]? =some (.cells #[.int .i64 0,.slice none 0 0,.slice none 0 0] 46 (0,0)) by rw [←hW0];exact box_new2 w _ _ _)
 have hzr:=zr
 have hzz0:=zz
 have HCL:=hide (fun W (hb:Below W0.heap.size W0 W)=> cloneBacks_any o cap l W ((hR.kept (HB.out.trans (hb.mono HB.out.size)) (Nat.le_refl _)).le (Nat.le_trans HB.out.size hb.size)) hn hlen)
 have HG:=hide hG
 clear hR hG
 go_enter Tryz.func175,Tryz.ntmps175
 go_upto_region 1 with fail
 go_cut [3] from 6 to 11 (fun s3 wx=> ∃B o2 c2,s3=.pointer (some ⟨B,0,none⟩)∧Hid (wx.heap[B]? =some (.cells #[.int .i64 key,.slice o2 l.length c2,.slice none 0 0] 46 (0,0)))∧Hid (Below W0.heap.size W0 wx)∧W0.heap.size≤B∧B < wx.heap.size∧Hid (ownK wx W0.heap.size (.slice o2 l.length c2) l))
 case first=>
  go_region_held3 (fun w'=> w'.cell? ⟨w.heap.size,0,none⟩=some (.int .i64 key)∧w'.cell? ⟨w.heap.size,1,none⟩=some (.slice o l.length cap)) (first|with_reducible exact ⟨k0_0,k0_1⟩|with_reducible exact ⟨z0,z1⟩|with_reducible exact ⟨setP_cell k0_0 zz,setP_cell k0_1 zz⟩|go_keep) (first|(go_at_call 213;have hc_:=HCL.out W0.drew (Below.drew (Below.refl _ _));with_reducible refine hc_.mono ?_;clear hc_;rintro e x0 ⟨v2,rfl,ow2,hb⟩;have hp0:Below W0.heap.size W0 x0:=Below.trans (show Below W0.heap.size W0 W0.drew from (Below.drew (Below.refl _ _))) (hb.mono (by simp));have sp0:=hp0.size;obtain ⟨o2,c2,e2,_⟩:=ownL.open (L:=layK) ow2;subst e2;have ow2:=own_mono ow2 (show W0.heap.size≤_ by (try simp));have k0_0:=bC hp0 z0 zz;have k0_1:=bC hp0 z1 zz;clear hb)|(go_at_call 213;have hc_:=HCL.out (W0.alloc (.cells #[.int .i64 0,.slice none 0 0,.slice none 0 0] 46)).drew (Below.drew ((Below.refl _ _).alloc (Nat.le_refl _) _));with_reducible refine hc_.mono ?_;clear hc_;rintro e x0 ⟨v2,rfl,ow2,hb⟩;have hp0:Below W0.heap.size W0 x0:=Below.trans (show Below W0.heap.size W0 (W0.alloc (.cells #[.int .i64 0,.slice none 0 0,.slice none 0 0] 46)).drew from (Below.drew ((Below.refl _ _).alloc (Nat.le_refl _) _))) (hb.mono (by simp));have sp0:=hp0.size;obtain ⟨o2,c2,e2,_⟩:=ownL.open (L:=layK) ow2;subst e2;have ow2:=own_mono ow2 (show W0.heap.size≤_ by (try simp));have k0_0:=bC hp0 z0 zz;have k0_1:=bC hp0 z1 zz;have hZa:=box_newA hb;have hzla:=(Array.getElem?_eq_some_iff.1 hZa).1;have hzc_0:=bx_cell hZa 0 _ rfl;have hzf_0:=bx_frozen hZa 0;have hzc_1:=bx_cell hZa 1 _ rfl;have hzf_1:=bx_frozen hZa 1;have hzc_2:=bx_cell hZa 2 _ rfl;have hzf_2:=bx_frozen hZa 2;clear hb))
  all_goals (go_wp2_with fail;go_meet)
  all_goals first
   |with_reducible exact finK hZa hp0 (Nat.le_refl _) ow2
   |with_reducible exact finKn hp0 ow2
 case rest=>
  obtain ⟨B,o2,c2,rfl,Hbx,Hbl,hB1,hB2,Hob⟩:=hcut
  have hb:=Hbl.out
  have hwc:=hb.size
  have HBLK:=hide (hb.block _ hzr)
  clear Hbl
  replace z0:=bC hb z0 zz
  replace z1:=bC hb z1 zz
  replace z2:=bC hb z2 zz
  replace zz:=Nat.lt_of_lt_of_le zz hb.size
  replace r0:=bC hb r0 zr
  replace r1:=bC hb r1 zr
  replace r2:=bC hb r2 zr
  replace fr0:=bF hb fr0 zr
  replace fr1:=bF hb fr1 zr
  replace fr2:=bF hb fr2 zr
  replace zr:=Nat.lt_of_lt_of_le zr hb.size
  replace HB:=hide (HB.out.trans (hb.mono HB.out.size))
  clear hb
  have HRB:=hide ((HBLK.out).trans HR0.out)
  have HBC:=HB
  have HLB:=hide (fun b (e:(Value.slice o2 l.length c2).ownBlock=some b)=> (Hob.out.lt b e).2)
  have hz2c:=z2
  have hr0c:=r0
  have hr1c:=r1
  have hr2c:=r2
  have hf0c:=fr0
  have hf1c:=fr1
  have hf2c:=fr2
  clear z0 z1 r0 r1 r2 fr0 fr1 fr2
  go_wp2
  go_loopw [15] (fun iv wr=> ∃(i:Nat) (hs:List Hd) (L H:Nat→Nat) (oQ:Option Addr) (cQ:Nat),i≤n∧iv=.int .i64 (i:Int)∧Hid (wr.heap[B]? =some (.cells #[.int .i64 key,.slice o2 l.length c2,.slice oQ i cQ] 46 (0,0)))∧Hid (ownL layH 228 wr wc.heap.size (.slice oQ i cQ) hs)∧Hid (Rw InT [] ((fs.map ptLL).take i) wc.heap.size wr.heap.size wr hs L H)∧Hid (outB (.slice oQ i cQ) i L H)∧Hid (ownK wr W0.heap.size (.slice o2 l.length c2) l)∧wc.heap.size≤wr.heap.size∧Hid (Stp B (B+1) wc wr))
   (fun iv _=> n - (intOf iv).toNat)
  case atStart=> exact ⟨0,[],fun _=> 0,fun _=> 0,none,0,Nat.zero_le _,rfl,Hbx.out,World.ownsRow_nil _ _ _ _,by rw [List.take_zero];exact Rw.nil _ _ _ _ _ _ _,fun i hi=> absurd hi (Nat.not_lt_zero _),Hob.out,Nat.le_refl _,Stp.refl _⟩
  case round=>
   obtain ⟨i,hs,L,H,oQ,cQ,hi',rfl,HBX,HOW,HRW,HOUT,HOB,hsr,HST⟩:=hrel
   have hzB:B≠w.heap.size:=by omega
   have hBr:B≠w.heap.size+1:=by omega
   have HCELL:=hide (fun (p:Addr) u (hp:p.block < W0.heap.size) (h:wc.cell? p=some u)=> HST.out.cellP h (by omega))
   by_cases hlt:i < n
   ·skip
    have hlt':(i:Int) < (n:Int):=by omega
    skip
    have hif:i < fs.length:=by rw [←HNN.out];exact hlt
    have HRD:=hide (show RdL layT w.heap.size wr oR fs from rd_stp HG.out HBC.out HST.out (show w.heap.size≤B by omega))
    rcases HRD.out with hh|⟨b,off,rfl,hbl,hrow⟩
    ·rw [hh] at hif;exact absurd hif (Nat.not_lt_zero _)
    have HRG:=hide (RdL.range hrow i hif)
    have HTK:=hide (take_map fs i hif)
    clear hrow HRD
    obtain ⟨f,hf⟩:∃f,fs.getD i ptZ=f:=⟨_,rfl⟩
    rw [hf] at HRG HTK
    clear hf
    obtain ⟨W2,hW2⟩:∃W,wr.alloc (.cells (ptA f) 299)=W:=⟨_,rfl⟩
    have hb2:Below wr.heap.size wr W2:=by rw [←hW2];exact (Below.refl _ _).alloc (Nat.le_refl _) _
    have hz5:W2.heap[wr.heap.size]? =some (.cells (ptA f) 299 (0,0)):=by rw [←hW2];exact World.alloc_heap_new wr _
    have hx2:=(hb2.block B (by omega)).trans HBX.out
    have hx2l:=(Array.getElem?_eq_some_iff.1 hx2).1
    have HRA:=hide (show W2.rangeAt wr.heap.size 0 (ptL f) from range_pt hz5)
    clear hz5
    have p2:W2.cell? ⟨B,2,none⟩=some (.slice oQ i cQ):=bx_cell hx2 2 _ rfl
    have HX2:=hide hx2
    have HOW2:=hide (own_kept HOW.out hb2)
    have HRW2:=hide (HRW.out.kept InT.stp hb2)
    have HOB2:=hide (own_kept HOB.out hb2)
    have HST2:=hide (HST.out.trans (Stp.of hb2))
    have hs2:wr.heap.size≤W2.heap.size:=hb2.size
    have HLT:=hide (fun g (e:(Value.slice oQ i cQ).ownBlock=some g)=> (HOW.out.lt g e).2)
    have HHI:=hide (fun j (hj:j < i)=> (HRW.out.bd j (by rw [List.length_take,List.length_map];omega)).2)
    have HLN:=hide (show ((fs.map ptLL).take i).length=i by rw [List.length_take,List.length_map];omega)
    clear hb2 hx2 HOW HRW HOB
    go_wp2_with (first|(refine wpList_load_mid rfl 299 (.tmp 17) rfl b (off+i * 24) rfl (ptL f) _ HRG.out ptU rfl ptI ?_)|(refine wpList_store_pt rfl (.tmp 5) (.tmp 18) rfl wr.heap.size f ptZ rfl rfl (World.alloc_heap_new wr _) ?_;rw [World.setRow_alloc_new,hW2]))
    skip
    have HHL:=hide (show hs.length=i by have:=HRW2.out.len;rw [HLN.out] at this;exact this)
    have HNB:=hide (fun g (e:(Value.slice oQ i cQ).ownBlock=some g)=> (HOW2.out.lt g e).1)
    refine wp_region_held_drew (S:=fun w'=> w'.rangeAt wr.heap.size 0 (ptL f)) (by kernel_rfl) HRA.out (fun hHeld=> ?_)
    refine wpAnyH_take (i:=2) (oi:=_) (v:=ptv f) rfl (by kernel_rfl) (by kernel_rfl) (by kernel_rfl) (fun _ _ _ h=> h) (yieldsIf_load_mid (by rfl) _ _ rfl wr.heap.size 0 rfl (ptL f) _ (fun w h=> h) ptU rfl ptI) hHeld ?_
    try simp only [Act.put,List.setIfInBounds_toArray,List.set_cons_zero,List.set_cons_succ]
    refine wpAnyH_take (i:=0) (oi:=_) (v:=.pointer (some ⟨B,2,none⟩)) rfl (by kernel_rfl) (by kernel_rfl) (by kernel_rfl) (fun _ _ _ h=> h) (Or.inl ⟨by rfl,fun w _=> by go_simp⟩) hHeld ?_
    try simp only [Act.put,List.setIfInBounds_toArray,List.set_cons_zero,List.set_cons_succ]
    have ra0:W2.drew.rangeAt wr.heap.size 0 (ptL f):=HRA.out
    have hzw:wr.heap.size < W2.heap.size:=by rw [←hW2];simp
    refine wpAnyH_ready (rs:=[1,3]) (by kernel_rfl) (by simp) ?_
    refine AllReadyH.cons rfl (fun K hK=> ?_) ?_
    ·skip
     go_simp
     refine hK.out _ _ ra0 (fun hHeld=> ?_)
     clear hK K
     try simp only [Act.put,List.setIfInBounds_toArray,List.set_cons_zero,List.set_cons_succ]
     refine wpAnyH_ready (rs:=[3]) (by kernel_rfl) (by simp) ?_
     refine AllReadyH.cons rfl (fun K hK=> ?_) ?_
     ·skip
      go_simp
      go_at_call 214
      refine (lists_any f _).mono ?_
      rintro e v1 ⟨v4,rfl,it4,hb4⟩
      replace hb4:Below W2.heap.size W2 v1:=(Below.drew (Below.refl _ _)).trans hb4
      replace it4:InT W2.heap.size v1.heap.size v1 v4 (ptLL f):=it4
      obtain ⟨o4,c4,e4,_⟩:=RiT.rd (InT.ri it4)
      rw [ptLL_len] at e4
      subst e4
      have hx4:=(hb4.block B hx2l).trans HX2.out
      have hx4l:=(Array.getElem?_eq_some_iff.1 hx4).1
      have p4:v1.cell? ⟨B,2,none⟩=some (.slice oQ i cQ):=bx_cell hx4 2 _ rfl
      have p4a:∀O,(v1.alloc O).cell? ⟨B,2,none⟩=some (.slice oQ i cQ):=(fun O=> ((Below.refl v1.heap.size v1).alloc (Nat.le_refl _) O).cell (p:=⟨B,2,none⟩) hx4l|>.trans p4)
      have hs4:=hb4.size
      have HOW4:=hide (own_kept HOW2.out hb4)
      have HRW4:=hide (HRW2.out.kept InT.stp hb4)
      have HOB4:=hide (own_kept HOB2.out hb4)
      have HST4:=hide (HST2.out.trans (Stp.of hb4))
      have HIT:=hide it4
      have ra1:v1.rangeAt wr.heap.size 0 (ptL f):=range_kept HRA.out hb4 hzw
      have HX4:=hide hx4
      clear it4 hb4 hx4
      go_wp2_with fail
      refine hK.out _ _ ra1 (fun hHeld=> ?_)
      clear hK K
      try simp only [Act.put,List.setIfInBounds_toArray,List.set_cons_zero,List.set_cons_succ]
      refine wpAnyH_ready (rs:=[4]) (by kernel_rfl) (by simp) ?_
      refine AllReadyH.cons rfl (fun K hK=> ?_) ?_
      ·skip
       go_simp
       refine hK.out _ _ (range_kept ra1 ((Below.refl v1.heap.size v1).alloc (Nat.le_refl _) (.cells #[.slice o4 8 c4] 228)) (by omega)) (fun hHeld=> ?_)
       clear hK K
       try simp only [Act.put,List.setIfInBounds_toArray,List.set_cons_zero,List.set_cons_succ]
       refine wpAnyH_ready (rs:=[5]) (by kernel_rfl) (by simp) ?_
       refine AllReadyH.cons rfl (fun K hK=> ?_) ?_
       ·skip
        refine step_append_lay appHT rfl (.tmp 20) (.tmp 23) rfl wc.heap.size (.slice oQ i cQ) hs rfl (HOW4.out.alloc (.cells #[.slice o4 8 c4] 228)) (some ⟨v1.heap.size,0,none⟩) 1 _ [(o4,8,c4)] 1 rfl rfl (by simp) rd_oneH (by rw [HHL.out];simp;omega) (by simp;omega) ?_
        intro v8 w8 ho8 hg8 hn8
        obtain ⟨o8,c8,e8,_⟩:=ownL.open (L:=layH) ho8
        have hl8:(hs++[((o4,8,c4):Hd)]).length=i+1:=(by rw [List.length_append,HHL.out];rfl)
        rw [hl8] at e8
        subst e8
        have hx8:=(hg8.block B (by simp;omega) (fun e=> by have:=HLT.out B e.symm;have:=HNB.out B e.symm;omega)).trans ((Below.heap_alloc _ _ _ hx4l).trans HX4.out)
        have p8:w8.cell? ⟨B,2,none⟩=some (.slice oQ i cQ):=bx_cell hx8 2 _ rfl
        have f8:=bx_frozen hx8 2
        have ra3:w8.rangeAt wr.heap.size 0 (ptL f):=range_grown (range_kept ra1 ((Below.refl v1.heap.size v1).alloc (Nat.le_refl _) _) (by omega)) hg8 (by simp;omega) (fun e=> by have:=HLT.out _ e.symm;omega)
        have HX8:=hide hx8
        have HO8:=hide ho8
        have HG8:=hide hg8
        have HN8:=hide hn8
        clear ho8 hg8 hn8 hx8
        refine hK.out _ _ ra3 (fun hHeld=> ?_)
        clear hK K
        try simp only [Act.put,List.setIfInBounds_toArray,List.set_cons_zero,List.set_cons_succ]
        refine wpAnyH_take (i:=6) (oi:=_) (v:=.pointer (some ⟨B,2,none⟩)) rfl (by kernel_rfl) (by kernel_rfl) (by kernel_rfl) (fun _ _ _ h=> h) (Or.inl ⟨by rfl,fun w _=> by go_simp⟩) hHeld ?_
        try simp only [Act.put,List.setIfInBounds_toArray,List.set_cons_zero,List.set_cons_succ]
        refine wpAnyH_ready (rs:=[7]) (by kernel_rfl) (by simp) ?_
        refine AllReadyH.cons rfl (fun K hK=> ?_) ?_
        ·skip
         go_simp
         refine hK.out _ _ (range_far ra3 (by omega) _ _) (fun hHeld=> ?_)
         clear hK K
         try simp only [Act.put,List.setIfInBounds_toArray,List.set_cons_zero,List.set_cons_succ]
         refine wpAnyH_done (by kernel_rfl) ?_ _
         have HX9:Hid ((w8.setCell ⟨B,2,none⟩ (.slice o8 (i+1) c8)).heap[B]? =some (.cells #[.int .i64 key,.slice o2 l.length c2,.slice o8 (i+1) c8] 46 (0,0))):=box_put HX8.out 2 _
         have HO9:Hid (ownL layH 228 (w8.setCell ⟨B,2,none⟩ (.slice o8 (i+1) c8)) wc.heap.size (.slice o8 (i+1) c8) (hs++[(o4,8,c4)])):=own_putB HO8.out HX8.out neP1 2 _
         have hR8:=Rw.more HRW4.out HLN.out hs2 (show wc.heap.size≤W2.heap.size by omega) hs4 HIT.out HOUT.out HLT.out HG8.out
         rw [←HTK.out] at hR8
         have HR9:Hid (Rw InT [] ((fs.map ptLL).take (i+1)) wc.heap.size (w8.setCell ⟨B,2,none⟩ (.slice o8 (i+1) c8)).heap.size (w8.setCell ⟨B,2,none⟩ (.slice o8 (i+1) c8)) (hs++[(o4,8,c4)]) _ _):=(hR8.step InT.stp (stp_set w8 B 2 (.slice o8 (i+1) c8)) (fun j hj=> .inl (Nat.le_trans (show B+1≤wc.heap.size from hB2) (hR8.bd j hj).1))).mono (Nat.le_refl _) (by simp)
         have HU9:=hide (out_more HOUT.out HHI.out hs2 hs4 HLT.out HN8.out)
         have HOB9:Hid (ownK (w8.setCell ⟨B,2,none⟩ (.slice o8 (i+1) c8)) W0.heap.size (.slice o2 l.length c2) l):=own_putB (World.ownsRow.kept (World.ownsRow.alloc HOB4.out _) HG8.out (own_apart0 HOB4.out HOW4.out neBR)) HX8.out neP4 2 _
         have HS9:=hide ((stp_more HST4.out HG8.out (fun g e=> HNB.out g e)).trans (stp_set w8 B 2 (.slice o8 (i+1) c8)))
         have hs9:wc.heap.size≤w8.heap.size:=by have:=HS9.out.size;simpa using this
         clear hR8
         go_wp2
         go_roundw
         case rel=> exact ⟨i+1,_,_,_,o8,c8,by omega,by go_num,HX9.out,HO9.out,HR9.out,HU9.out,HOB9.out,by simpa using hs9,HS9.out⟩
         case measure=> simp [intOf];omega
        exact AllReadyH.nil
       exact AllReadyH.nil
      exact AllReadyH.nil
     exact AllReadyH.nil
    refine AllReadyH.cons rfl (fun K hK=> ?_) ?_
    ·skip
     go_simp
     go_at_call 214
     refine (lists_any f _).mono ?_
     rintro e v1 ⟨v4,rfl,it4,hb4⟩
     replace hb4:Below W2.heap.size W2 v1:=(Below.drew (Below.refl _ _)).trans hb4
     replace it4:InT W2.heap.size v1.heap.size v1 v4 (ptLL f):=it4
     obtain ⟨o4,c4,e4,_⟩:=RiT.rd (InT.ri it4)
     rw [ptLL_len] at e4
     subst e4
     have hx4:=(hb4.block B hx2l).trans HX2.out
     have hx4l:=(Array.getElem?_eq_some_iff.1 hx4).1
     have p4:v1.cell? ⟨B,2,none⟩=some (.slice oQ i cQ):=bx_cell hx4 2 _ rfl
     have p4a:∀O,(v1.alloc O).cell? ⟨B,2,none⟩=some (.slice oQ i cQ):=(fun O=> ((Below.refl v1.heap.size v1).alloc (Nat.le_refl _) O).cell (p:=⟨B,2,none⟩) hx4l|>.trans p4)
     have hs4:=hb4.size
     have HOW4:=hide (own_kept HOW2.out hb4)
     have HRW4:=hide (HRW2.out.kept InT.stp hb4)
     have HOB4:=hide (own_kept HOB2.out hb4)
     have HST4:=hide (HST2.out.trans (Stp.of hb4))
     have HIT:=hide it4
     have ra1:v1.rangeAt wr.heap.size 0 (ptL f):=range_kept HRA.out hb4 hzw
     have HX4:=hide hx4
     clear it4 hb4 hx4
     go_wp2_with fail
     refine hK.out _ _ ra1 (fun hHeld=> ?_)
     clear hK K
     try simp only [Act.put,List.setIfInBounds_toArray,List.set_cons_zero,List.set_cons_succ]
     refine wpAnyH_ready (rs:=[1,4]) (by kernel_rfl) (by simp) ?_
     refine AllReadyH.cons rfl (fun K hK=> ?_) ?_
     ·skip
      go_simp
      refine hK.out _ _ ra1 (fun hHeld=> ?_)
      clear hK K
      try simp only [Act.put,List.setIfInBounds_toArray,List.set_cons_zero,List.set_cons_succ]
      refine wpAnyH_ready (rs:=[4]) (by kernel_rfl) (by simp) ?_
      refine AllReadyH.cons rfl (fun K hK=> ?_) ?_
      ·skip
       go_simp
       refine hK.out _ _ (range_kept ra1 ((Below.refl v1.heap.size v1).alloc (Nat.le_refl _) (.cells #[.slice o4 8 c4] 228)) (by omega)) (fun hHeld=> ?_)
       clear hK K
       try simp only [Act.put,List.setIfInBounds_toArray,List.set_cons_zero,List.set_cons_succ]
       refine wpAnyH_ready (rs:=[5]) (by kernel_rfl) (by simp) ?_
       refine AllReadyH.cons rfl (fun K hK=> ?_) ?_
       ·skip
        refine step_append_lay appHT rfl (.tmp 20) (.tmp 23) rfl wc.heap.size (.slice oQ i cQ) hs rfl (HOW4.out.alloc (.cells #[.slice o4 8 c4] 228)) (some ⟨v1.heap.size,0,none⟩) 1 _ [(o4,8,c4)] 1 rfl rfl (by simp) rd_oneH (by rw [HHL.out];simp;omega) (by simp;omega) ?_
        intro v8 w8 ho8 hg8 hn8
        obtain ⟨o8,c8,e8,_⟩:=ownL.open (L:=layH) ho8
        have hl8:(hs++[((o4,8,c4):Hd)]).length=i+1:=(by rw [List.length_append,HHL.out];rfl)
        rw [hl8] at e8
        subst e8
        have hx8:=(hg8.block B (by simp;omega) (fun e=> by have:=HLT.out B e.symm;have:=HNB.out B e.symm;omega)).trans ((Below.heap_alloc _ _ _ hx4l).trans HX4.out)
        have p8:w8.cell? ⟨B,2,none⟩=some (.slice oQ i cQ):=bx_cell hx8 2 _ rfl
        have f8:=bx_frozen hx8 2
        have ra3:w8.rangeAt wr.heap.size 0 (ptL f):=range_grown (range_kept ra1 ((Below.refl v1.heap.size v1).alloc (Nat.le_refl _) _) (by omega)) hg8 (by simp;omega) (fun e=> by have:=HLT.out _ e.symm;omega)
        have HX8:=hide hx8
        have HO8:=hide ho8
        have HG8:=hide hg8
        have HN8:=hide hn8
        clear ho8 hg8 hn8 hx8
        refine hK.out _ _ ra3 (fun hHeld=> ?_)
        clear hK K
        try simp only [Act.put,List.setIfInBounds_toArray,List.set_cons_zero,List.set_cons_succ]
        refine wpAnyH_take (i:=6) (oi:=_) (v:=.pointer (some ⟨B,2,none⟩)) rfl (by kernel_rfl) (by kernel_rfl) (by kernel_rfl) (fun _ _ _ h=> h) (Or.inl ⟨by rfl,fun w _=> by go_simp⟩) hHeld ?_
        try simp only [Act.put,List.setIfInBounds_toArray,List.set_cons_zero,List.set_cons_succ]
        refine wpAnyH_ready (rs:=[7]) (by kernel_rfl) (by simp) ?_
        refine AllReadyH.cons rfl (fun K hK=> ?_) ?_
        ·skip
         go_simp
         refine hK.out _ _ (range_far ra3 (by omega) _ _) (fun hHeld=> ?_)
         clear hK K
         try simp only [Act.put,List.setIfInBounds_toArray,List.set_cons_zero,List.set_cons_succ]
         refine wpAnyH_done (by kernel_rfl) ?_ _
         have HX9:Hid ((w8.setCell ⟨B,2,none⟩ (.slice o8 (i+1) c8)).heap[B]? =some (.cells #[.int .i64 key,.slice o2 l.length c2,.slice o8 (i+1) c8] 46 (0,0))):=box_put HX8.out 2 _
         have HO9:Hid (ownL layH 228 (w8.setCell ⟨B,2,none⟩ (.slice o8 (i+1) c8)) wc.heap.size (.slice o8 (i+1) c8) (hs++[(o4,8,c4)])):=own_putB HO8.out HX8.out neP1 2 _
         have hR8:=Rw.more HRW4.out HLN.out hs2 (show wc.heap.size≤W2.heap.size by omega) hs4 HIT.out HOUT.out HLT.out HG8.out
         rw [←HTK.out] at hR8
         have HR9:Hid (Rw InT [] ((fs.map ptLL).take (i+1)) wc.heap.size (w8.setCell ⟨B,2,none⟩ (.slice o8 (i+1) c8)).heap.size (w8.setCell ⟨B,2,none⟩ (.slice o8 (i+1) c8)) (hs++[(o4,8,c4)]) _ _):=(hR8.step InT.stp (stp_set w8 B 2 (.slice o8 (i+1) c8)) (fun j hj=> .inl (Nat.le_trans (show B+1≤wc.heap.size from hB2) (hR8.bd j hj).1))).mono (Nat.le_refl _) (by simp)
         have HU9:=hide (out_more HOUT.out HHI.out hs2 hs4 HLT.out HN8.out)
         have HOB9:Hid (ownK (w8.setCell ⟨B,2,none⟩ (.slice o8 (i+1) c8)) W0.heap.size (.slice o2 l.length c2) l):=own_putB (World.ownsRow.kept (World.ownsRow.alloc HOB4.out _) HG8.out (own_apart0 HOB4.out HOW4.out neBR)) HX8.out neP4 2 _
         have HS9:=hide ((stp_more HST4.out HG8.out (fun g e=> HNB.out g e)).trans (stp_set w8 B 2 (.slice o8 (i+1) c8)))
         have hs9:wc.heap.size≤w8.heap.size:=by have:=HS9.out.size;simpa using this
         clear hR8
         go_wp2
         go_roundw
         case rel=> exact ⟨i+1,_,_,_,o8,c8,by omega,by go_num,HX9.out,HO9.out,HR9.out,HU9.out,HOB9.out,by simpa using hs9,HS9.out⟩
         case measure=> simp [intOf];omega
        exact AllReadyH.nil
       exact AllReadyH.nil
      exact AllReadyH.nil
     refine AllReadyH.cons rfl (fun K hK=> ?_) ?_
     ·skip
      go_simp
      refine hK.out _ _ (range_kept ra1 ((Below.refl v1.heap.size v1).alloc (Nat.le_refl _) (.cells #[.slice o4 8 c4] 228)) (by omega)) (fun hHeld=> ?_)
      clear hK K
      try simp only [Act.put,List.setIfInBounds_toArray,List.set_cons_zero,List.set_cons_succ]
      refine wpAnyH_ready (rs:=[1]) (by kernel_rfl) (by simp) ?_
      refine AllReadyH.cons rfl (fun K hK=> ?_) ?_
      ·skip
       go_simp
       refine hK.out _ _ (range_kept ra1 ((Below.refl v1.heap.size v1).alloc (Nat.le_refl _) (.cells #[.slice o4 8 c4] 228)) (by omega)) (fun hHeld=> ?_)
       clear hK K
       try simp only [Act.put,List.setIfInBounds_toArray,List.set_cons_zero,List.set_cons_succ]
       refine wpAnyH_ready (rs:=[5]) (by kernel_rfl) (by simp) ?_
       refine AllReadyH.cons rfl (fun K hK=> ?_) ?_
       ·skip
        refine step_append_lay appHT rfl (.tmp 20) (.tmp 23) rfl wc.heap.size (.slice oQ i cQ) hs rfl (HOW4.out.alloc (.cells #[.slice o4 8 c4] 228)) (some ⟨v1.heap.size,0,none⟩) 1 _ [(o4,8,c4)] 1 rfl rfl (by simp) rd_oneH (by rw [HHL.out];simp;omega) (by simp;omega) ?_
        intro v8 w8 ho8 hg8 hn8
        obtain ⟨o8,c8,e8,_⟩:=ownL.open (L:=layH) ho8
        have hl8:(hs++[((o4,8,c4):Hd)]).length=i+1:=(by rw [List.length_append,HHL.out];rfl)
        rw [hl8] at e8
        subst e8
        have hx8:=(hg8.block B (by simp;omega) (fun e=> by have:=HLT.out B e.symm;have:=HNB.out B e.symm;omega)).trans ((Below.heap_alloc _ _ _ hx4l).trans HX4.out)
        have p8:w8.cell? ⟨B,2,none⟩=some (.slice oQ i cQ):=bx_cell hx8 2 _ rfl
        have f8:=bx_frozen hx8 2
        have ra3:w8.rangeAt wr.heap.size 0 (ptL f):=range_grown (range_kept ra1 ((Below.refl v1.heap.size v1).alloc (Nat.le_refl _) _) (by omega)) hg8 (by simp;omega) (fun e=> by have:=HLT.out _ e.symm;omega)
        have HX8:=hide hx8
        have HO8:=hide ho8
        have HG8:=hide hg8
        have HN8:=hide hn8
        clear ho8 hg8 hn8 hx8
        refine hK.out _ _ ra3 (fun hHeld=> ?_)
        clear hK K
        try simp only [Act.put,List.setIfInBounds_toArray,List.set_cons_zero,List.set_cons_succ]
        refine wpAnyH_take (i:=6) (oi:=_) (v:=.pointer (some ⟨B,2,none⟩)) rfl (by kernel_rfl) (by kernel_rfl) (by kernel_rfl) (fun _ _ _ h=> h) (Or.inl ⟨by rfl,fun w _=> by go_simp⟩) hHeld ?_
        try simp only [Act.put,List.setIfInBounds_toArray,List.set_cons_zero,List.set_cons_succ]
        refine wpAnyH_ready (rs:=[7]) (by kernel_rfl) (by simp) ?_
        refine AllReadyH.cons rfl (fun K hK=> ?_) ?_
        ·skip
         go_simp
         refine hK.out _ _ (range_far ra3 (by omega) _ _) (fun hHeld=> ?_)
         clear hK K
         try simp only [Act.put,List.setIfInBounds_toArray,List.set_cons_zero,List.set_cons_succ]
         refine wpAnyH_done (by kernel_rfl) ?_ _
         have HX9:Hid ((w8.setCell ⟨B,2,none⟩ (.slice o8 (i+1) c8)).heap[B]? =some (.cells #[.int .i64 key,.slice o2 l.length c2,.slice o8 (i+1) c8] 46 (0,0))):=box_put HX8.out 2 _
         have HO9:Hid (ownL layH 228 (w8.setCell ⟨B,2,none⟩ (.slice o8 (i+1) c8)) wc.heap.size (.slice o8 (i+1) c8) (hs++[(o4,8,c4)])):=own_putB HO8.out HX8.out neP1 2 _
         have hR8:=Rw.more HRW4.out HLN.out hs2 (show wc.heap.size≤W2.heap.size by omega) hs4 HIT.out HOUT.out HLT.out HG8.out
         rw [←HTK.out] at hR8
         have HR9:Hid (Rw InT [] ((fs.map ptLL).take (i+1)) wc.heap.size (w8.setCell ⟨B,2,none⟩ (.slice o8 (i+1) c8)).heap.size (w8.setCell ⟨B,2,none⟩ (.slice o8 (i+1) c8)) (hs++[(o4,8,c4)]) _ _):=(hR8.step InT.stp (stp_set w8 B 2 (.slice o8 (i+1) c8)) (fun j hj=> .inl (Nat.le_trans (show B+1≤wc.heap.size from hB2) (hR8.bd j hj).1))).mono (Nat.le_refl _) (by simp)
         have HU9:=hide (out_more HOUT.out HHI.out hs2 hs4 HLT.out HN8.out)
         have HOB9:Hid (ownK (w8.setCell ⟨B,2,none⟩ (.slice o8 (i+1) c8)) W0.heap.size (.slice o2 l.length c2) l):=own_putB (World.ownsRow.kept (World.ownsRow.alloc HOB4.out _) HG8.out (own_apart0 HOB4.out HOW4.out neBR)) HX8.out neP4 2 _
         have HS9:=hide ((stp_more HST4.out HG8.out (fun g e=> HNB.out g e)).trans (stp_set w8 B 2 (.slice o8 (i+1) c8)))
         have hs9:wc.heap.size≤w8.heap.size:=by have:=HS9.out.size;simpa using this
         clear hR8
         go_wp2
         go_roundw
         case rel=> exact ⟨i+1,_,_,_,o8,c8,by omega,by go_num,HX9.out,HO9.out,HR9.out,HU9.out,HOB9.out,by simpa using hs9,HS9.out⟩
         case measure=> simp [intOf];omega
        exact AllReadyH.nil
       exact AllReadyH.nil
      exact AllReadyH.nil
     exact AllReadyH.nil
    exact AllReadyH.nil
   ·skip
    have e:i=n:=by omega
    subst e
    have hrb:=HST.out.box HRB.out (.inl (show w.heap.size+1 < B by omega))
    have r0:wr.cell? ⟨w.heap.size+1,0,none⟩=some (.int .i64 0):=bx_cell hrb 0 _ rfl
    have fr0:=bx_frozen hrb 0
    have r1:wr.cell? ⟨w.heap.size+1,1,none⟩=some (.slice none 0 0):=bx_cell hrb 1 _ rfl
    have fr1:=bx_frozen hrb 1
    have r2:wr.cell? ⟨w.heap.size+1,2,none⟩=some (.slice none 0 0):=bx_cell hrb 2 _ rfl
    have fr2:=bx_frozen hrb 2
    have p0:wr.cell? ⟨B,0,none⟩=some (.int .i64 key):=bx_cell HBX.out 0 _ rfl
    have p1:wr.cell? ⟨B,1,none⟩=some (.slice o2 l.length c2):=bx_cell HBX.out 1 _ rfl
    have p2:wr.cell? ⟨B,2,none⟩=some (.slice oQ i cQ):=bx_cell HBX.out 2 _ rfl
    have HIN:Hid (InPm W0.heap.size wr.heap.size wr (plv key (.slice o2 l.length c2) (.slice oQ i cQ)) ⟨key,l,fs.map ptLL⟩):=⟨_,_,wc.heap.size,rfl,hwc,hsr,⟨HOB.out,HLB.out⟩,⟨hs,L,H,InRow.of (all_take HNN.out HRW.out HOW.out).1,(all_take HNN.out HRW.out HOW.out).2,out_len HNN.out HOUT.out⟩⟩
    have HBW:=hide (HBC.out.trans (HST.out.below (show w.heap.size≤B by omega) (by omega)))
    clear hrb
    go_wp2
    refine bodyPost_ret (v:=plv key (.slice o2 l.length c2) (.slice oQ i cQ)) (by simp [results,Tryz.results175,go_sem,r0,r1,r2]) rfl ⟨_,rfl, ?_,setQ_below HBW.out (Nat.le_succ _) _ _ _⟩
    rw [setQ_size]
    exact InPm.mono (HIN.out.step (stp_setQ wr (w.heap.size+1) _ _ _) (.inl (by omega))) (by omega)
theorem plain_any (key:Int) (o:Option Addr) (cap:Nat) (l:List Bk) (oR:Option Addr) (cR:Nat) (fs:List Pt) (w:World) (hR:RdK w.heap.size w o l) (hn:o=none→cap=0) (hlen:l.length≤1048576) (hG:RdL layT w.heap.size w oR fs) (hf3:fs.length≤1048576):
  Calls Tryz.prog 175 #[polv key (.slice o l.length cap) (.slice oR fs.length cR)] w fun e w'=> ∃v,e=.returned v∧InPm w.heap.size w'.heap.size w' v ⟨key,l,fs.map ptLL⟩∧Below w.heap.size w w':=plain_go key o cap l oR cR fs fs.length rfl w hR hn hlen hG hf3
def RcV {α:Type} (L:Lay α) (lo hi:Nat) (w:World) (v:Value) (l:List α):Prop:=RiV L lo hi w v l∧capV v
abbrev RcT:=RiRows (RcV layI) []
abbrev RcR:=RiRows RcT []
theorem RiRows.map {α:Type} {Q Q':Nat→Nat→World→Value→α→Prop} {d:α} (hq:∀{lo hi:Nat} {w:World} {v:Value} {x:α},Q lo hi w v x→Q' lo hi w v x) {lo hi:Nat} {w:World} {v:Value} {xs:List α} (h:RiRows Q d lo hi w v xs):RiRows Q' d lo hi w v xs:=by
 obtain ⟨hs,h0,h1,h2⟩:=h
 exact ⟨hs,h0,h1,fun i hi=> hq (h2 i hi)⟩
def GTabs (w:World) (base:Nat) (hs:List Hd) (lll:List (List (List Int))):Prop:=hs.length=lll.length∧∀i,i < lll.length→∃o3 c3 hs8,hs.getD i (none,0,0)=(o3,(lll.getD i []).length,c3)∧ownL layH 60 w base (.slice o3 (lll.getD i []).length c3) hs8∧Tab (fun q=> (lll.getD i []).getD q []) (lll.getD i []).length w base hs8
theorem GTabs.rc {w:World} {base:Nat} {hs:List Hd} {R:List (List (List Int))} {o:Option Addr} {n c:Nat} (h:GTabs w base hs R) (ho:ownL layH 228 w base (.slice o n c) hs):RcR base w.heap.size w (.slice o n c) R:=by
 refine ⟨hs,h.1,InRow.ri (InRow.of ho),fun i hi=> ?_⟩
 obtain ⟨o3,c3,hs8,e,h1,h2⟩:=h.2 i hi
 have e':hv hs i=.slice o3 (R.getD i []).length c3:=by unfold hv;rw [e]
 rw [e']
 exact ⟨hs8,h2.len,InRow.ri (InRow.of h1),fun j hj=> ⟨InRow.ri (InRow.of (h2.row j hj)),InRow.cap (InRow.of (h2.row j hj))⟩⟩
theorem RcR.ri {lo hi:Nat} {w:World} {v:Value} {R:List (List (List Int))} (h:RcR lo hi w v R):RiR lo hi w v R:=RiRows.map (fun q=> RiRows.map (fun r=> r.1) q) h
theorem GTabs.ri {w:World} {base:Nat} {hs:List Hd} {R:List (List (List Int))} {o:Option Addr} {n c:Nat} (h:GTabs w base hs R) (ho:ownL layH 228 w base (.slice o n c) hs):RiR base w.heap.size w (.slice o n c) R:=RcR.ri (h.rc ho)
theorem GTabs.pm {w:World} {lo base:Nat} {key:Int} {l:List Bk} {hs:List Hd} {lll:List (List (List Int))} {o2 oQ:Option Addr} {c2 n cQ:Nat} (h1:ownK w base (.slice o2 l.length c2) l) (h2:ownL layH 228 w base (.slice oQ n cQ) hs) (h3:GTabs w base hs lll):RiPm base w.heap.size w (plv key (.slice o2 l.length c2) (.slice oQ n cQ)) ⟨key,l,lll⟩:=⟨_,_,rfl,InRow.ri (InRow.of h1),GTabs.ri h3 h2⟩
def pm0:Pm:=⟨0,[],[]⟩
def newT (key:Int) (l:List Bk):List (List Int):=rowsOf (fun b=> pairI key b l) 8
theorem newT_len (key:Int) (l:List Bk):(newT key l).length=8:=rowsOf_length _ _
theorem newT_row (key:Int) (l:List Bk) (j:Nat):((newT key l).getD j []).length≤2:=by
 by_cases h:j < 8
 ·unfold newT;rw [rowsOf_get _ _ _ h];exact pairI_len key j l
 ·rw [List.getD_eq_getElem?_getD,List.getElem?_eq_none (by rw [newT_len];omega)];simp
theorem newT_sz (key:Int) (l:List Bk):szT (newT key l)≤16:=by
 have h:=sumN_bd (lenT (newT key l)) 2 (fun i=> newT_row key l i) (newT key l).length
 unfold szT
 rw [newT_len] at h ⊢
 omega
theorem Tab.congr {R R':Nat→List Int} {k:Nat} {w:World} {base:Nat} {hs:List Hd} (h:Tab R k w base hs) (e:∀i,i < k→R i=R' i):Tab R' k w base hs:=⟨h.len,fun i hi=> by rw [←e i hi];exact h.row i hi,h.apart⟩
theorem tab_new {key:Int} {l:List Bk} {w:World} {base:Nat} {hs:List Hd} (h:Tab (fun b=> pairI key b l) 8 w base hs):Tab (fun q=> (newT key l).getD q []) (newT key l).length w base hs:=by
 rw [newT_len]
 exact h.congr (fun i hi=> by unfold newT;rw [rowsOf_get _ _ _ hi])
def ringT (key:Int) (R:List (List Bk)):List (List (List Int)):=R.map (newT key)
theorem ringT_get (key:Int) (R:List (List Bk)) (i:Nat) (h:i < R.length):(ringT key R).getD i []=newT key (R.getD i []):=by simp [ringT,h]
theorem ringT_fit (key:Int) (l:List Bk) (R:List (List Bk)) (hl:l.length≤1048576) (hR:R.length≤3):fitPm ⟨key,l,ringT key R⟩:=by
 have hlen:(ringT key R).length=R.length:=by simp [ringT]
 have hz:∀i,lenR (ringT key R) i≤16:=fun i=> by
  by_cases h:i < R.length
  ·unfold lenR;rw [ringT_get _ _ _ h];exact newT_sz key _
  ·unfold lenR;rw [List.getD_eq_getElem?_getD,List.getElem?_eq_none (by rw [hlen];omega)];exact Nat.zero_le _
 refine ⟨hl,by show (ringT key R).length≤_;omega, ?_,fun i hi=> ?_,fun i hi j hj=> ?_⟩
 ·have h:=sumN_bd (lenR (ringT key R)) 16 hz (ringT key R).length
  show sumN (lenR (ringT key R)) (ringT key R).length≤1048576
  rw [hlen] at h ⊢
  omega
 ·have hi':i < R.length:=by rw [←hlen];exact hi
  show ((ringT key R).getD i []).length≤_
  rw [ringT_get _ _ _ hi',newT_len];omega
 ·have hi':i < R.length:=by rw [←hlen];exact hi
  show (((ringT key R).getD i []).getD j []).length≤_
  rw [ringT_get _ _ _ hi']
  have:=newT_row key (R.getD i []) j;omega
theorem pm0_in (lo hi:Nat) (w:World) (h:lo≤hi):InPm lo hi w (plv 0 (.slice none 0 0) (.slice none 0 0)) pm0:=⟨_,_,lo,rfl,Nat.le_refl _,h,⟨World.ownsRow_nil _ _ _ _,fun b e=> by cases e⟩,⟨[],fun _=> 0,fun _=> 0,⟨World.ownsRow_nil _ _ _ _,fun b e=> by cases e⟩,Rw.nil _ _ _ _ _ _ _,fun i h=> absurd h (Nat.not_lt_zero _)⟩⟩
abbrev setB (W:World) (R:Nat) (x0 x1 x2 x3 x4 x5 x6:Value):World:=((((((W.setCell ⟨R,0,none⟩ x0).setCell ⟨R,1,none⟩ x1).setCell ⟨R,2,none⟩ x2).setCell ⟨R,3,none⟩ x3).setCell ⟨R,4,none⟩ x4).setCell ⟨R,5,none⟩ x5).setCell ⟨R,6,none⟩ x6
theorem stp_setB (W:World) (R:Nat) (x0 x1 x2 x3 x4 x5 x6:Value):Stp R (R+1) W (setB W R x0 x1 x2 x3 x4 x5 x6):=((((((stp_set W R 0 x0).trans (stp_set _ R 1 x1)).trans (stp_set _ R 2 x2)).trans (stp_set _ R 3 x3)).trans (stp_set _ R 4 x4)).trans (stp_set _ R 5 x5)).trans (stp_set _ R 6 x6)
theorem setB_size (W:World) (R:Nat) (x0 x1 x2 x3 x4 x5 x6:Value):(setB W R x0 x1 x2 x3 x4 x5 x6).heap.size=W.heap.size:=by simp [World.setCell]
theorem setB_below {C:Nat} {w W:World} {R:Nat} (h:Below C w W) (hB:C≤R) (x0 x1 x2 x3 x4 x5 x6:Value):Below C w (setB W R x0 x1 x2 x3 x4 x5 x6):=((((((h.setCell (p:=⟨R,0,none⟩) hB _).setCell (p:=⟨R,1,none⟩) hB _).setCell (p:=⟨R,2,none⟩) hB _).setCell (p:=⟨R,3,none⟩) hB _).setCell (p:=⟨R,4,none⟩) hB _).setCell (p:=⟨R,5,none⟩) hB _).setCell (p:=⟨R,6,none⟩) hB _
theorem inPm_wide {a b a' b':Nat} {w:World} {v:Value} {m:Pm} (h:InPm a b w v m) (h1:a'≤a) (h2:b≤b'):InPm a' b' w v m:=by
 obtain ⟨vb,vr,mid,e,k1,k2,i1,i2⟩:=h
 exact ⟨vb,vr,mid,e,by omega,by omega,InRow.mono i1 h1 (Nat.le_refl _),InRows.mono.go i2 (Nat.le_refl _) h2⟩
theorem inJm_wideB {a b a' b':Nat} {w:World} {v:Value} {m:Jm} (h:InJm a b w v m) (h1:a'≤a) (h2:b≤b'):InJm a' b' w v m:=by
 obtain ⟨vl,e,i1⟩:=h
 exact ⟨vl,e,InRow.mono i1 h1 h2⟩
theorem toBal_go (kj:Int) (o:Option Addr) (nj c:Nat) (sj kp:Int) (ob:Option Addr) (np cb:Nat) (oR:Option Addr) (nr cR:Nat) (ot:Option Addr) (nt ct:Nat) (m:Bm) (w:World)
  (hkj:m.j.key=kj) (hsj:m.j.safe=sj) (hkp:m.p.key=kp) (hnj:m.j.l.length=nj) (hnp:m.p.l.length=np) (hnr:m.p.ring.length=nr) (hnt:m.t.length=nt)
  (h1:RdJm w.heap.size w (jrn kj (.slice o nj c) sj) m.j) (h2:RdPm w.heap.size w (plv kp (.slice ob np cb) (.slice oR nr cR)) m.p) (h3:RdT w.heap.size w (tab (.slice ot nt ct)) m.t) (hf:fitB0 m):
  Calls Tryz.prog 45 #[balv kj (.slice o nj c) sj kp (.slice ob np cb) (.slice oR nr cR) (.slice ot nt ct)] w fun e w'=> ∃v',e=.returned v'∧InBm w.heap.size w'.heap.size w' v' m∧Below w.heap.size w w':=by
 have HJ:=hide (fun W (hb:Below w.heap.size w W)=> toJournal_sh (jrn kj (.slice o nj c) sj) m.j W ((h1.kept hb (Nat.le_refl _)).le hb.size) hf.1)
 have HP:=hide (fun W (hb:Below w.heap.size w W)=> toPool_sh (plv kp (.slice ob np cb) (.slice oR nr cR)) m.p W ((h2.kept hb (Nat.le_refl _)).le hb.size) hf.2.1)
 have HT:=hide (fun W (hb:Below w.heap.size w W)=> toTable_sh (tab (.slice ot nt ct)) m.t W ((h3.kept hb (Nat.le_refl _)).le hb.size) hf.2.2)
 have HK:=hide (And.intro hkj (And.intro hsj (And.intro hkp (And.intro hnj (And.intro hnp (And.intro hnr hnt))))))
 clear h1 h2 h3 hf hkj hsj hkp hnj hnp hnr hnt
 obtain ⟨W0,hW0⟩:∃W,(((w.alloc (.cells #[.int .i64 kj,.slice o nj c,.int .i64 sj,.int .i64 kp,.slice ob np cb,.slice oR nr cR,.slice ot nt ct] 33)).alloc (.cells #[.int .i64 0,.slice none 0 0,.int .i64 0,.int .i64 0,.slice none 0 0,.slice none 0 0,.slice none 0 0] 51)).alloc (.cells #[.int .i64 0,.slice none 0 0,.int .i64 0,.int .i64 0,.slice none 0 0,.slice none 0 0,.slice none 0 0] 51))=W:=⟨_,rfl⟩
 have HB0:=hide (show Below w.heap.size w W0 by rw [←hW0];exact ((((Below.refl _ _).alloc (Nat.le_refl _) _).alloc (by simp <;> omega) _).alloc (by simp <;> omega) _))
 have zx:w.heap.size+1+1 < W0.heap.size:=by rw [←hW0];simp
 have a00:W0.cell? ⟨w.heap.size,0,none⟩=some (.int .i64 kj):=by rw [←hW0];simp [go_sem]
 have a01:W0.cell? ⟨w.heap.size,1,none⟩=some (.slice o nj c):=by rw [←hW0];simp [go_sem]
 have a02:W0.cell? ⟨w.heap.size,2,none⟩=some (.int .i64 sj):=by rw [←hW0];simp [go_sem]
 have a03:W0.cell? ⟨w.heap.size,3,none⟩=some (.int .i64 kp):=by rw [←hW0];simp [go_sem]
 have a04:W0.cell? ⟨w.heap.size,4,none⟩=some (.slice ob np cb):=by rw [←hW0];simp [go_sem]
 have a05:W0.cell? ⟨w.heap.size,5,none⟩=some (.slice oR nr cR):=by rw [←hW0];simp [go_sem]
 have a06:W0.cell? ⟨w.heap.size,6,none⟩=some (.slice ot nt ct):=by rw [←hW0];simp [go_sem]
 have HX0:=hide (show W0.heap[w.heap.size+1+1]? =some (.cells #[.int .i64 0,.slice none 0 0,.int .i64 0,.int .i64 0,.slice none 0 0,.slice none 0 0,.slice none 0 0] 51 (0,0)) by rw [←hW0];exact box_new3 w _ _ _ _)
 have HR0:=hide (show W0.heap[w.heap.size+1]? =some (.cells #[.int .i64 0,.slice none 0 0,.int .i64 0,.int .i64 0,.slice none 0 0,.slice none 0 0,.slice none 0 0] 51 (0,0)) by rw [←hW0];exact box_mid3 w _ _ _ _)
 have hsW:w.heap.size≤W0.heap.size:=HB0.out.size
 go_enter Tryz.func45,Tryz.ntmps45
 go_wp2_with fail
 refine (HJ.out W0 HB0.out).mono ?_
 rintro e v1 ⟨u0v,rfl,inA,hb⟩
 obtain ⟨vl7,ev7,o7,c7,el7,_⟩:=inA.rd
 rw [HK.out.1,HK.out.2.1] at ev7
 rw [HK.out.2.2.2.1] at el7
 subst el7 ev7
 have hs0v:W0.heap.size≤v1.heap.size:=hb.size
 have hx:=(hb.block _ (show w.heap.size+1+1 < W0.heap.size by omega)).trans HX0.out
 have hr:=(hb.block _ (show w.heap.size+1 < W0.heap.size by omega)).trans HR0.out
 have y0:=bC hb a00 (show w.heap.size < W0.heap.size by omega)
 have y1:=bC hb a01 (show w.heap.size < W0.heap.size by omega)
 have y2:=bC hb a02 (show w.heap.size < W0.heap.size by omega)
 have y3:=bC hb a03 (show w.heap.size < W0.heap.size by omega)
 have y4:=bC hb a04 (show w.heap.size < W0.heap.size by omega)
 have y5:=bC hb a05 (show w.heap.size < W0.heap.size by omega)
 have y6:=bC hb a06 (show w.heap.size < W0.heap.size by omega)
 have p0:=bx_cell hx 0 _ rfl
 have p1:=bx_cell hx 1 _ rfl
 have p2:=bx_cell hx 2 _ rfl
 have q0:=bx_frozen hx 0
 have q1:=bx_frozen hx 1
 have q2:=bx_frozen hx 2
 obtain ⟨W1,hW1⟩:∃W,(((v1.setCell ⟨w.heap.size+1+1,0,none⟩ (.int .i64 kj)).setCell ⟨w.heap.size+1+1,1,none⟩ (.slice o7 nj c7)).setCell ⟨w.heap.size+1+1,2,none⟩ (.int .i64 sj))=W:=⟨_,rfl⟩
 have HX1:=hide (show W1.heap[w.heap.size+1+1]? =some (.cells #[.int .i64 kj,.slice o7 nj c7,.int .i64 sj,.int .i64 0,.slice none 0 0,.slice none 0 0,.slice none 0 0] 51 (0,0)) by rw [←hW1];exact (box_put (box_put (box_put hx 0 (.int .i64 kj)) 1 (.slice o7 nj c7)) 2 (.int .i64 sj)))
 have HR1:=hide (show W1.heap[w.heap.size+1]? =some (.cells #[.int .i64 0,.slice none 0 0,.int .i64 0,.int .i64 0,.slice none 0 0,.slice none 0 0,.slice none 0 0] 51 (0,0)) by rw [←hW1];exact ((far_block (by omega) _ _).trans ((far_block (by omega) _ _).trans ((far_block (by omega) _ _).trans hr))))
 have hs1:W1.heap.size=v1.heap.size:=by rw [←hW1];simp
 have HB1:=hide (show Below w.heap.size w W1 by rw [←hW1];exact ((((HB0.out.trans (hb.mono HB0.out.size)).setCell (p:=⟨w.heap.size+1+1,0,none⟩) (show w.heap.size≤w.heap.size+1+1 by omega) _).setCell (p:=⟨w.heap.size+1+1,1,none⟩) (show w.heap.size≤w.heap.size+1+1 by omega) _).setCell (p:=⟨w.heap.size+1+1,2,none⟩) (show w.heap.size≤w.heap.size+1+1 by omega) _))
 have sp:Stp (w.heap.size+1+1) (w.heap.size+1+1+1) v1 W1:=by rw [←hW1];exact (((stp_set v1 (w.heap.size+1+1) 0 (.int .i64 kj)).trans (stp_set (v1.setCell ⟨w.heap.size+1+1,0,none⟩ (.int .i64 kj)) (w.heap.size+1+1) 1 (.slice o7 nj c7))).trans (stp_set ((v1.setCell ⟨w.heap.size+1+1,0,none⟩ (.int .i64 kj)).setCell ⟨w.heap.size+1+1,1,none⟩ (.slice o7 nj c7)) (w.heap.size+1+1) 2 (.int .i64 sj)))
 have IN0:=hide (inA.step sp (.inl (by omega)))
 have a10:W1.cell? ⟨w.heap.size,0,none⟩=some (.int .i64 kj):=by rw [←hW1];exact ((cell_far (by omega)).trans ((cell_far (by omega)).trans ((cell_far (by omega)).trans y0)))
 have a11:W1.cell? ⟨w.heap.size,1,none⟩=some (.slice o nj c):=by rw [←hW1];exact ((cell_far (by omega)).trans ((cell_far (by omega)).trans ((cell_far (by omega)).trans y1)))
 have a12:W1.cell? ⟨w.heap.size,2,none⟩=some (.int .i64 sj):=by rw [←hW1];exact ((cell_far (by omega)).trans ((cell_far (by omega)).trans ((cell_far (by omega)).trans y2)))
 have a13:W1.cell? ⟨w.heap.size,3,none⟩=some (.int .i64 kp):=by rw [←hW1];exact ((cell_far (by omega)).trans ((cell_far (by omega)).trans ((cell_far (by omega)).trans y3)))
 have a14:W1.cell? ⟨w.heap.size,4,none⟩=some (.slice ob np cb):=by rw [←hW1];exact ((cell_far (by omega)).trans ((cell_far (by omega)).trans ((cell_far (by omega)).trans y4)))
 have a15:W1.cell? ⟨w.heap.size,5,none⟩=some (.slice oR nr cR):=by rw [←hW1];exact ((cell_far (by omega)).trans ((cell_far (by omega)).trans ((cell_far (by omega)).trans y5)))
 have a16:W1.cell? ⟨w.heap.size,6,none⟩=some (.slice ot nt ct):=by rw [←hW1];exact ((cell_far (by omega)).trans ((cell_far (by omega)).trans ((cell_far (by omega)).trans y6)))
 clear hx hr hb inA sp y0 a00 y1 a01 y2 a02 y3 a03 y4 a04 y5 a05 y6 a06 HB0 HX0 HR0
 go_wp2_with fail
 refine (HP.out W1 HB1.out).mono ?_
 rintro e v2 ⟨u1v,rfl,inA,hb⟩
 obtain ⟨o8,c8,oR8,cR8,ev8⟩:=inA.opn
 rw [HK.out.2.2.1,HK.out.2.2.2.2.1,HK.out.2.2.2.2.2.1] at ev8
 subst ev8
 have hs1v:W1.heap.size≤v2.heap.size:=hb.size
 have hx:=(hb.block _ (show w.heap.size+1+1 < W1.heap.size by omega)).trans HX1.out
 have hr:=(hb.block _ (show w.heap.size+1 < W1.heap.size by omega)).trans HR1.out
 have y0:=bC hb a10 (show w.heap.size < W1.heap.size by omega)
 have y1:=bC hb a11 (show w.heap.size < W1.heap.size by omega)
 have y2:=bC hb a12 (show w.heap.size < W1.heap.size by omega)
 have y3:=bC hb a13 (show w.heap.size < W1.heap.size by omega)
 have y4:=bC hb a14 (show w.heap.size < W1.heap.size by omega)
 have y5:=bC hb a15 (show w.heap.size < W1.heap.size by omega)
 have y6:=bC hb a16 (show w.heap.size < W1.heap.size by omega)
 replace IN0:=hide (IN0.out.step (Stp.of (lo:=0) (hi:=0) hb) (.inl (Nat.zero_le _)))
 have p3:=bx_cell hx 3 _ rfl
 have p4:=bx_cell hx 4 _ rfl
 have p5:=bx_cell hx 5 _ rfl
 have q3:=bx_frozen hx 3
 have q4:=bx_frozen hx 4
 have q5:=bx_frozen hx 5
 obtain ⟨W2,hW2⟩:∃W,(((v2.setCell ⟨w.heap.size+1+1,3,none⟩ (.int .i64 kp)).setCell ⟨w.heap.size+1+1,4,none⟩ (.slice o8 np c8)).setCell ⟨w.heap.size+1+1,5,none⟩ (.slice oR8 nr cR8))=W:=⟨_,rfl⟩
 have HX2:=hide (show W2.heap[w.heap.size+1+1]? =some (.cells #[.int .i64 kj,.slice o7 nj c7,.int .i64 sj,.int .i64 kp,.slice o8 np c8,.slice oR8 nr cR8,.slice none 0 0] 51 (0,0)) by rw [←hW2];exact (box_put (box_put (box_put hx 3 (.int .i64 kp)) 4 (.slice o8 np c8)) 5 (.slice oR8 nr cR8)))
 have HR2:=hide (show W2.heap[w.heap.size+1]? =some (.cells #[.int .i64 0,.slice none 0 0,.int .i64 0,.int .i64 0,.slice none 0 0,.slice none 0 0,.slice none 0 0] 51 (0,0)) by rw [←hW2];exact ((far_block (by omega) _ _).trans ((far_block (by omega) _ _).trans ((far_block (by omega) _ _).trans hr))))
 have hs2:W2.heap.size=v2.heap.size:=by rw [←hW2];simp
 have HB2:=hide (show Below w.heap.size w W2 by rw [←hW2];exact ((((HB1.out.trans (hb.mono HB1.out.size)).setCell (p:=⟨w.heap.size+1+1,3,none⟩) (show w.heap.size≤w.heap.size+1+1 by omega) _).setCell (p:=⟨w.heap.size+1+1,4,none⟩) (show w.heap.size≤w.heap.size+1+1 by omega) _).setCell (p:=⟨w.heap.size+1+1,5,none⟩) (show w.heap.size≤w.heap.size+1+1 by omega) _))
 have sp:Stp (w.heap.size+1+1) (w.heap.size+1+1+1) v2 W2:=by rw [←hW2];exact (((stp_set v2 (w.heap.size+1+1) 3 (.int .i64 kp)).trans (stp_set (v2.setCell ⟨w.heap.size+1+1,3,none⟩ (.int .i64 kp)) (w.heap.size+1+1) 4 (.slice o8 np c8))).trans (stp_set ((v2.setCell ⟨w.heap.size+1+1,3,none⟩ (.int .i64 kp)).setCell ⟨w.heap.size+1+1,4,none⟩ (.slice o8 np c8)) (w.heap.size+1+1) 5 (.slice oR8 nr cR8)))
 replace IN0:=hide (IN0.out.step sp (.inl (by omega)))
 have IN1:=hide (inA.step sp (.inl (by omega)))
 have a20:W2.cell? ⟨w.heap.size,0,none⟩=some (.int .i64 kj):=by rw [←hW2];exact ((cell_far (by omega)).trans ((cell_far (by omega)).trans ((cell_far (by omega)).trans y0)))
 have a21:W2.cell? ⟨w.heap.size,1,none⟩=some (.slice o nj c):=by rw [←hW2];exact ((cell_far (by omega)).trans ((cell_far (by omega)).trans ((cell_far (by omega)).trans y1)))
 have a22:W2.cell? ⟨w.heap.size,2,none⟩=some (.int .i64 sj):=by rw [←hW2];exact ((cell_far (by omega)).trans ((cell_far (by omega)).trans ((cell_far (by omega)).trans y2)))
 have a23:W2.cell? ⟨w.heap.size,3,none⟩=some (.int .i64 kp):=by rw [←hW2];exact ((cell_far (by omega)).trans ((cell_far (by omega)).trans ((cell_far (by omega)).trans y3)))
 have a24:W2.cell? ⟨w.heap.size,4,none⟩=some (.slice ob np cb):=by rw [←hW2];exact ((cell_far (by omega)).trans ((cell_far (by omega)).trans ((cell_far (by omega)).trans y4)))
 have a25:W2.cell? ⟨w.heap.size,5,none⟩=some (.slice oR nr cR):=by rw [←hW2];exact ((cell_far (by omega)).trans ((cell_far (by omega)).trans ((cell_far (by omega)).trans y5)))
 have a26:W2.cell? ⟨w.heap.size,6,none⟩=some (.slice ot nt ct):=by rw [←hW2];exact ((cell_far (by omega)).trans ((cell_far (by omega)).trans ((cell_far (by omega)).trans y6)))
 clear hx hr hb inA sp y0 a10 y1 a11 y2 a12 y3 a13 y4 a14 y5 a15 y6 a16 HB1 HX1 HR1
 go_wp2_with fail
 refine (HT.out W2 HB2.out).mono ?_
 rintro e v3 ⟨u2v,rfl,inA,hb⟩
 obtain ⟨vt9,ev9,o9,c9,el9,_⟩:=inA.rd
 rw [HK.out.2.2.2.2.2.2] at el9
 subst el9 ev9
 have hs2v:W2.heap.size≤v3.heap.size:=hb.size
 have hx:=(hb.block _ (show w.heap.size+1+1 < W2.heap.size by omega)).trans HX2.out
 have hr:=(hb.block _ (show w.heap.size+1 < W2.heap.size by omega)).trans HR2.out
 have y0:=bC hb a20 (show w.heap.size < W2.heap.size by omega)
 have y1:=bC hb a21 (show w.heap.size < W2.heap.size by omega)
 have y2:=bC hb a22 (show w.heap.size < W2.heap.size by omega)
 have y3:=bC hb a23 (show w.heap.size < W2.heap.size by omega)
 have y4:=bC hb a24 (show w.heap.size < W2.heap.size by omega)
 have y5:=bC hb a25 (show w.heap.size < W2.heap.size by omega)
 have y6:=bC hb a26 (show w.heap.size < W2.heap.size by omega)
 replace IN0:=hide (IN0.out.step (Stp.of (lo:=0) (hi:=0) hb) (.inl (Nat.zero_le _)))
 replace IN1:=hide (IN1.out.step (Stp.of (lo:=0) (hi:=0) hb) (.inl (Nat.zero_le _)))
 have p6:=bx_cell hx 6 _ rfl
 have q6:=bx_frozen hx 6
 obtain ⟨W3,hW3⟩:∃W,(v3.setCell ⟨w.heap.size+1+1,6,none⟩ (.slice o9 nt c9))=W:=⟨_,rfl⟩
 have HX3:=hide (show W3.heap[w.heap.size+1+1]? =some (.cells #[.int .i64 kj,.slice o7 nj c7,.int .i64 sj,.int .i64 kp,.slice o8 np c8,.slice oR8 nr cR8,.slice o9 nt c9] 51 (0,0)) by rw [←hW3];exact (box_put hx 6 (.slice o9 nt c9)))
 have HR3:=hide (show W3.heap[w.heap.size+1]? =some (.cells #[.int .i64 0,.slice none 0 0,.int .i64 0,.int .i64 0,.slice none 0 0,.slice none 0 0,.slice none 0 0] 51 (0,0)) by rw [←hW3];exact ((far_block (by omega) _ _).trans hr))
 have hs3:W3.heap.size=v3.heap.size:=by rw [←hW3];simp
 have HB3:=hide (show Below w.heap.size w W3 by rw [←hW3];exact ((HB2.out.trans (hb.mono HB2.out.size)).setCell (p:=⟨w.heap.size+1+1,6,none⟩) (show w.heap.size≤w.heap.size+1+1 by omega) _))
 have sp:Stp (w.heap.size+1+1) (w.heap.size+1+1+1) v3 W3:=by rw [←hW3];exact (stp_set v3 (w.heap.size+1+1) 6 (.slice o9 nt c9))
 replace IN0:=hide (IN0.out.step sp (.inl (by omega)))
 replace IN1:=hide (IN1.out.step sp (.inl (by omega)))
 have IN2:=hide (inA.step sp (.inl (by omega)))
 have a30:W3.cell? ⟨w.heap.size,0,none⟩=some (.int .i64 kj):=by rw [←hW3];exact ((cell_far (by omega)).trans y0)
 have a31:W3.cell? ⟨w.heap.size,1,none⟩=some (.slice o nj c):=by rw [←hW3];exact ((cell_far (by omega)).trans y1)
 have a32:W3.cell? ⟨w.heap.size,2,none⟩=some (.int .i64 sj):=by rw [←hW3];exact ((cell_far (by omega)).trans y2)
 have a33:W3.cell? ⟨w.heap.size,3,none⟩=some (.int .i64 kp):=by rw [←hW3];exact ((cell_far (by omega)).trans y3)
 have a34:W3.cell? ⟨w.heap.size,4,none⟩=some (.slice ob np cb):=by rw [←hW3];exact ((cell_far (by omega)).trans y4)
 have a35:W3.cell? ⟨w.heap.size,5,none⟩=some (.slice oR nr cR):=by rw [←hW3];exact ((cell_far (by omega)).trans y5)
 have a36:W3.cell? ⟨w.heap.size,6,none⟩=some (.slice ot nt ct):=by rw [←hW3];exact ((cell_far (by omega)).trans y6)
 clear hx hr hb inA sp y0 a20 y1 a21 y2 a22 y3 a23 y4 a24 y5 a25 y6 a26 HB2 HX2 HR2
 have x0:=bx_cell HX3.out 0 _ rfl
 have x1:=bx_cell HX3.out 1 _ rfl
 have x2:=bx_cell HX3.out 2 _ rfl
 have x3:=bx_cell HX3.out 3 _ rfl
 have x4:=bx_cell HX3.out 4 _ rfl
 have x5:=bx_cell HX3.out 5 _ rfl
 have x6:=bx_cell HX3.out 6 _ rfl
 have r0:=bx_cell HR3.out 0 _ rfl
 have r1:=bx_cell HR3.out 1 _ rfl
 have r2:=bx_cell HR3.out 2 _ rfl
 have r3:=bx_cell HR3.out 3 _ rfl
 have r4:=bx_cell HR3.out 4 _ rfl
 have r5:=bx_cell HR3.out 5 _ rfl
 have r6:=bx_cell HR3.out 6 _ rfl
 have fr0:=bx_frozen HR3.out 0
 have fr1:=bx_frozen HR3.out 1
 have fr2:=bx_frozen HR3.out 2
 have fr3:=bx_frozen HR3.out 3
 have fr4:=bx_frozen HR3.out 4
 have fr5:=bx_frozen HR3.out 5
 have fr6:=bx_frozen HR3.out 6
 have HFI:Hid (InBm w.heap.size (setB W3 (w.heap.size+1) (.int .i64 kj) (.slice o7 nj c7) (.int .i64 sj) (.int .i64 kp) (.slice o8 np c8) (.slice oR8 nr cR8) (.slice o9 nt c9)).heap.size (setB W3 (w.heap.size+1) (.int .i64 kj) (.slice o7 nj c7) (.int .i64 sj) (.int .i64 kp) (.slice o8 np c8) (.slice oR8 nr cR8) (.slice o9 nt c9)) (balv kj (.slice o7 nj c7) sj kp (.slice o8 np c8) (.slice oR8 nr cR8) (.slice o9 nt c9)) m):=by
  have s9:=stp_setB W3 (w.heap.size+1) (.int .i64 kj) (.slice o7 nj c7) (.int .i64 sj) (.int .i64 kp) (.slice o8 np c8) (.slice oR8 nr cR8) (.slice o9 nt c9)
  obtain ⟨e1,e2,e3,_⟩:=HK.out
  refine ⟨.slice o7 nj c7,.slice o8 np c8,.slice oR8 nr cR8,.slice o9 nt c9,w.heap.size,v1.heap.size,v1.heap.size,v2.heap.size,v2.heap.size,W3.heap.size,by rw [e1,e2,e3],by rw [setB_size];omega, ?_, ?_, ?_⟩
  ·rw [e1,e2];exact inJm_wideB (IN0.out.step s9 (.inl (by omega))) (by omega) (by omega)
  ·rw [e3];exact inPm_wide (IN1.out.step s9 (.inl (by omega))) (by omega) (by omega)
  ·exact (IN2.out.step s9 (.inl (by omega))).mono (by omega) (by omega)
 go_wp2
 refine bodyPost_ret (v:=balv kj (.slice o7 nj c7) sj kp (.slice o8 np c8) (.slice oR8 nr cR8) (.slice o9 nt c9)) (by simp [results,Tryz.results45,go_sem,r0,r1,r2,r3,r4,r5,r6]) rfl ⟨_,rfl,HFI.out,setB_below HB3.out (Nat.le_succ _) _ _ _ _ _ _ _⟩
theorem toBal_sh (v:Value) (m:Bm) (w:World) (hR:RdBm w.heap.size w v m) (hf:fitB0 m):
  Calls Tryz.prog 45 #[v] w fun e w'=> ∃v',e=.returned v'∧InBm w.heap.size w'.heap.size w' v' m∧Below w.heap.size w w':=by
 obtain ⟨o,c,ob,cb,oR,cR,ot,ct,rfl⟩:=hR.opn
 obtain ⟨vl,vb,vr,vt,e,a1,a2,a3⟩:=hR
 simp only [Value.agg.injEq,Array.mk.injEq,List.cons.injEq,and_true,true_and] at e
 obtain ⟨e1,e2,e3,e4⟩:=e
 subst e1 e2 e3 e4
 exact toBal_go _ o _ c _ _ ob _ cb oR _ cR ot _ ct m w rfl rfl rfl rfl rfl rfl rfl a1 a2 a3 hf
def replayM (m:Jm):Pm:=if journalB m.key m.l m.safe=true then ⟨m.key,servedOf m.l m.l.length,ringT m.key (ringR m.l m.l.length)⟩ else pm0
theorem ringR_len (cs:List Cd):∀n,(ringR cs n).length≤3
 |0=> by simp [ringR]
 |n+1=> by rw [ringR,List.length_take];omega
theorem replay_fit (m:Jm):fitPm (replayM m):=by
 unfold replayM
 split
 ·next h=> exact ringT_fit m.key _ _ (by have:=(served_facts h).2;omega) (ringR_len _ _)
 ·exact ⟨by simp [pm0],by simp [pm0],by simp [pm0,szR,sumN],fun i hi=> absurd hi (Nat.not_lt_zero _),fun i hi=> absurd hi (Nat.not_lt_zero _)⟩
theorem ptabs_g {w:World} {base:Nat} {key:Int} {hs:List Hd} {R:List (List Bk)} (h:PTabs w base key hs R):GTabs w base hs (ringT key R):=by
 refine ⟨by rw [h.1];simp [ringT],fun i hi=> ?_⟩
 have hi':i < R.length:=by simpa [ringT] using hi
 obtain ⟨o3,c3,hs8,e,h1,h2⟩:=h.2 i hi'
 rw [ringT_get _ _ _ hi']
 exact ⟨o3,c3,hs8,by rw [newT_len];exact e,by rw [newT_len];exact h1,tab_new h2⟩
def lastS (cs:List Cd) (a:Nat):Nat→List (List Bk)
 |0=> []
 |j+1=> servedOf cs (a+j)::lastS cs a j
theorem lastS_len (cs:List Cd) (a:Nat):∀j,(lastS cs a j).length=j
 |0=> rfl
 |j+1=> by simp [lastS,lastS_len cs a j]
theorem lastS_step (cs:List Cd) (a j:Nat) (key:Int) (hj:j≤2):newF key (servedOf cs (a+j))::((lastS cs a j).map (newF key)).take 2=(lastS cs a (j+1)).map (newF key):=by
 rw [List.take_of_length_le (by rw [List.length_map,lastS_len];exact hj)]
 rfl
theorem ringR_three (cs:List Cd):∀n,ringR cs (n+2)=[servedOf cs (n+2),servedOf cs (n+1),servedOf cs n]
 |0=> rfl
 |n+1=> by rw [ringR,ringR_three cs n];rfl
theorem ringR_last (cs:List Cd) (n:Nat):ringR cs n=lastS cs (n+1 - 3) (n+1 - (n+1 - 3)):=by
 match n with
 |0=> rfl
 |1=> rfl
 |n+2=>
  rw [ringR_three,show n+2+1 - 3=n by omega,show n+2+1 - n=3 by omega]
  simp [lastS]
theorem lastS_ok {cs:List Cd} {a:Nat} (h:∀q,q < cs.length+1→backsOkB (servedOf cs q)=true):∀j,a+j≤cs.length+1→∀l∈lastS cs a j,backsOkB l=true
 |0,_=> fun l hl=> by simp [lastS] at hl
 |j+1,hj=> fun l hl=> by
  rcases List.mem_cons.1 hl with rfl|hl
  ·exact h _ (by omega)
  ·exact lastS_ok h j (by omega) l hl
theorem last_tabs {key:Int} {L:List (List Bk)} (h:∀l∈L,backsOkB l=true):(L.map (newF key)).map ptLL=ringT key L:=by
 rw [List.map_map]
 exact List.map_congr_left (fun l hl=> ptLL_new key (h l hl))
theorem served_each {key safe:Int} {cs:List Cd} (h:journalB key cs safe=true):∀q,q < cs.length+1→backsOkB (servedOf cs q)=true∧(servedOf cs q).length≤100:=fun q hq=> by
 obtain ⟨l,hl⟩:=runTo_back (journal_run h) (show q≤cs.length by omega)
 have h1:=runTo_ok q l (by omega) hl
 have h2:=(journal_facts h).2.1
 unfold servedOf
 rw [hl]
 exact ⟨h1.1,by simp only [Option.getD_some];omega⟩
def bvS (hs:List Hd) (a:Nat):Nat→Value
 |0=> .slice none 0 0
 |j+1=> hv hs (a+j)
theorem bvS_last (hs:List Hd) (a:Nat):∀(j n:Nat),1≤j→a+(j - 1)=n→bvS hs a j=hv hs n
 |0,n,h,_=> absurd h (by omega)
 |j+1,n,_,h=> by
  rw [←h]
  rfl
theorem own_roomT {α:Type} {L:Lay α} {T:TypeId} {w:World} {base:Nat} {o:Option Addr} {n c:Nat} {fs:List α} (h:ownL L T w base (.slice o n c) fs):fs.length≤c∧(o=none→c=0):=by
 rcases h.2 with ⟨e,h0⟩|⟨g,cap,cur,e,_,_,h1,_⟩
 ·injection e with e1 e2 e3
  exact ⟨by omega,fun _=> e3⟩
 ·injection e with e1 e2 e3
  exact ⟨by omega,fun h=> by rw [h] at e1;cases e1⟩
theorem implReplay_sh (v:Value) (m:Jm) (w:World) (hR:RdJm w.heap.size w v m) (hcp:capJm v) (hf:fitJm m):
  Calls Tryz.prog 157 #[v] w fun e w'=> ∃v',e=.returned (.tuple #[v',.bool (journalB m.key m.l m.safe)])∧InPm w.heap.size w'.heap.size w' v' (replayM m)∧Below w.heap.size w w':=by
 have hR0:=hR
 obtain ⟨vl,rfl,⟨o,c,rfl,r⟩⟩:=hR0
 clear hcp hR
 obtain ⟨key,l,safe⟩:=m
 dsimp only at *
 have HPM:=hide (show replayM ⟨key,l,safe⟩=if journalB key l safe=true then ⟨key,servedOf l l.length,ringT key (ringR l l.length)⟩ else pm0 from rfl)
 have HFA:=hide (fun h:journalB key l safe=true=> And.intro (journal_facts h) (And.intro (journal_run h) (And.intro (served_each h) (replay_fit ⟨key,l,safe⟩))))
 unfold fitJm at hf
 dsimp only at hf
 obtain ⟨W0,hW0⟩:∃W,((w.alloc (.cells #[.int .i64 key,.slice o l.length c,.int .i64 safe] 43)).alloc (.cells #[.int .i64 0,.slice none 0 0,.slice none 0 0] 46))=W:=⟨_,rfl⟩
 have hb_W0:Below w.heap.size w W0:=by rw [←hW0];exact (((Below.refl _ _).alloc (Nat.le_refl _) _).alloc (by simp <;> omega) _)
 have HB:=hide hb_W0
 clear hb_W0
 have zz:w.heap.size < W0.heap.size:=by rw [←hW0];simp <;> omega
 have z0:W0.cell? ⟨w.heap.size,0,none⟩=some (.int .i64 key):=by rw [←hW0];simp [go_sem]
 have z1:W0.cell? ⟨w.heap.size,1,none⟩=some (.slice o l.length c):=by rw [←hW0];simp [go_sem]
 have z2:W0.cell? ⟨w.heap.size,2,none⟩=some (.int .i64 safe):=by rw [←hW0];simp [go_sem]
 have zr:w.heap.size+1 < W0.heap.size:=by rw [←hW0];simp
 have r0:W0.cell? ⟨w.heap.size+1,0,none⟩=some (.int .i64 0):=by rw [←hW0];simp [go_sem]
 have r1:W0.cell? ⟨w.heap.size+1,1,none⟩=some (.slice none 0 0):=by rw [←hW0];simp [go_sem]
 have r2:W0.cell? ⟨w.heap.size+1,2,none⟩=some (.slice none 0 0):=by rw [←hW0];simp [go_sem]
 have fr0:W0.frozen? ⟨w.heap.size+1,0,none⟩=false:=by rw [←hW0];simp [go_sem]
 have fr1:W0.frozen? ⟨w.heap.size+1,1,none⟩=false:=by rw [←hW0];simp [go_sem]
 have fr2:W0.frozen? ⟨w.heap.size+1,2,none⟩=false:=by rw [←hW0];simp [go_sem]
 have HR0:=hide (show W0.heap[w.heap.size+1]? =some (.cells #[.int .i64 0,.slice none 0 0,.slice none 0 0] 46 (0,0)) by rw [←hW0];exact box_new2 w _ _ _)
 have hzr:=zr
 have HTU:=hide (turns_any key safe o c l W0 ((r.kept HB.out (Nat.le_refl _)).le HB.out.size) hf)
 clear r
 cases hj:journalB key l safe with
 |false=>
  rw [hj] at HTU HPM
  clear HFA hj
  go_enter Tryz.func157,Tryz.ntmps157
  go_wp2_with fail
  refine (HTU.out).mono ?_
  rintro e v1 ⟨v9,rfl,_,hb⟩
  replace z0:=bC hb z0 zz
  replace z1:=bC hb z1 zz
  replace z2:=bC hb z2 zz
  replace zz:=Nat.lt_of_lt_of_le zz hb.size
  replace r0:=bC hb r0 zr
  replace r1:=bC hb r1 zr
  replace r2:=bC hb r2 zr
  replace fr0:=bF hb fr0 zr
  replace fr1:=bF hb fr1 zr
  replace fr2:=bF hb fr2 zr
  replace zr:=Nat.lt_of_lt_of_le zr hb.size
  replace HB:=hide (HB.out.trans (hb.mono HB.out.size))
  clear hb
  go_wp2
  refine bodyPost_ret (v:=.tuple #[plv 0 (.slice none 0 0) (.slice none 0 0),.bool false]) (by simp [results,Tryz.results157,go_sem,r0,r1,r2]) rfl ⟨_,rfl, ?_,setQ_below HB.out (Nat.le_succ _) _ _ _⟩
  rw [HPM.out,if_neg (by simp)]
  exact pm0_in _ _ _ (setQ_below HB.out (Nat.le_succ _) _ _ _).size
 |true=>
  obtain ⟨⟨hk,hl,h0,h1⟩,hrun,hse,hfi⟩:=HFA.out hj
  have HSE:=hide hse
  have HK:=hide hk
  rw [hj] at HTU HPM
  clear HFA hj hse hk hfi hrun
  go_enter Tryz.func157,Tryz.ntmps157
  go_wp2_with fail
  refine (HTU.out).mono ?_
  rintro e v1 ⟨v9,rfl,hown9,hb⟩
  obtain ⟨hs,ho9,hs9⟩:=hown9 (by simp)
  have HO9:=hide ho9
  have HS9:=hide hs9
  have hs1:=hb.size
  have HBLK:=hide ((hb.block _ hzr).trans HR0.out)
  clear hown9 ho9 hs9
  replace z0:=bC hb z0 zz
  replace z1:=bC hb z1 zz
  replace z2:=bC hb z2 zz
  replace zz:=Nat.lt_of_lt_of_le zz hb.size
  replace r0:=bC hb r0 zr
  replace r1:=bC hb r1 zr
  replace r2:=bC hb r2 zr
  replace fr0:=bF hb fr0 zr
  replace fr1:=bF hb fr1 zr
  replace fr2:=bF hb fr2 zr
  replace zr:=Nat.lt_of_lt_of_le zr hb.size
  replace HB:=hide (HB.out.trans (hb.mono HB.out.size))
  clear hb
  have HLN:=hide HS9.out.len
  obtain ⟨g9,c9,e9⟩:=own_someH HO9.out (by rw [HLN.out];omega)
  subst e9
  have hc9:hs.length≤c9:=(own_roomT HO9.out).1
  have hgl:g9 < v1.heap.size:=(HO9.out.lt g9 rfl).2
  have hgb:W0.heap.size≤g9:=(HO9.out.lt g9 rfl).1
  obtain ⟨N,hN⟩:∃N,hs.length=N:=⟨_,rfl⟩
  have HN:=hide (show N=l.length+1 by rw [←hN];exact HLN.out)
  have HNS:=hide hN
  rw [hN] at hc9 ⊢
  have hN1:1≤N:=by have:=HN.out;omega
  clear hN
  obtain ⟨a,ha⟩:∃a,N - 3=a:=⟨_,rfl⟩
  have haN:a < N:=by omega
  have haN':(a:Int) < (N:Int):=by omega
  have hac:¬(c9=a):=by omega
  have hac':(a:Int)≤(c9:Int):=by omega
  have haN2:(a:Int)≤(N:Int):=by omega
  have hmx:max (0:Int) ((N:Int) - 3)=(a:Int):=by omega
  have HA:=hide ha
  have hN101:N≤101:=by have:=HN.out;omega
  clear ha
  go_wp2
  obtain ⟨W1,hW1⟩:∃W,v1.alloc (.cells #[.int .i64 key,.slice none 0 0,.slice none 0 0] 255)=W:=⟨_,rfl⟩
  rw [hW1]
  have hx1:W1.heap[v1.heap.size]? =some (.cells #[.int .i64 key,.slice none 0 0,.slice none 0 0] 255 (0,0)):=by rw [←hW1];exact World.alloc_heap_new v1 _
  have hb1:Below v1.heap.size v1 W1:=by rw [←hW1];exact (Below.refl _ _).alloc (Nat.le_refl _) _
  have HX1:=hide hx1
  have hs2:v1.heap.size < W1.heap.size:=(Array.getElem?_eq_some_iff.1 HX1.out).1
  have HB1:=hide hb1
  clear hx1 hb1 hW1 z0 z1 z2 r0 r1 r2 fr0 fr1 fr2
  obtain ⟨M,hM⟩:∃M,N - a=M:=⟨_,rfl⟩
  rw [hM]
  have HM:=hide hM
  have hM3:M≤3:=by have:=HA.out;omega
  have hM1:1≤M:=by omega
  have haM:a+M=N:=by omega
  clear hM hmx
  go_loopw [27] (fun iv wr=> ∃(j:Nat) (oR:Option Addr) (cR:Nat) (ob:Option Addr) (nb cb:Nat),j≤M∧iv=.int .i64 (j:Int)∧Hid (wr.heap[v1.heap.size]? =some (.cells #[.int .i64 key,.slice ob nb cb,.slice oR j cR] 255 (0,0)))∧Hid (bvS hs a j=.slice ob nb cb)∧Hid (ownL layT 299 wr W1.heap.size (.slice oR j cR) ((lastS l a j).map (newF key)))∧Hid (Stp v1.heap.size (v1.heap.size+1) W1 wr)∧W1.heap.size≤wr.heap.size)
   (fun iv _=> M - (intOf iv).toNat)
  case atStart=> exact ⟨0,none,0,none,0,0,Nat.zero_le _,rfl,HX1.out,rfl,World.ownsRow_nil _ _ _ _,Stp.refl _,Nat.le_refl _⟩
  case round=>
   obtain ⟨j,oR,cR,ob,nb,cb,hj,rfl,HBX,HBV,HOW,HST,hsr⟩:=hrel
   have HBV1:=hide (HB1.out.trans (HST.out.below (Nat.le_refl _) (Nat.le_of_lt hs2)))
   have p0:wr.cell? ⟨v1.heap.size,0,none⟩=some (.int .i64 key):=bx_cell HBX.out 0 _ rfl
   have p1:wr.cell? ⟨v1.heap.size,1,none⟩=some (.slice ob nb cb):=bx_cell HBX.out 1 _ rfl
   have p2:wr.cell? ⟨v1.heap.size,2,none⟩=some (.slice oR j cR):=bx_cell HBX.out 2 _ rfl
   have hroom:=own_roomT HOW.out
   rw [List.length_map,lastS_len] at hroom
   by_cases hlt:j < M
   ·skip
    have hlt':(j:Int) < (M:Int):=by omega
    have haj:a+j < l.length+1:=by have:=HN.out;omega
    have hrow:=HS9.out.row (a+j) haj
    obtain ⟨oK,cK,eK,rK⟩:=ownL.open (L:=layK) hrow
    have hcap:=own_capK (eK ▸ hrow)
    have hcl:=bC HBV1.out (head_cell HO9.out (a+j) (by rw [HLN.out];exact haj)) hgl
    rw [eK] at hcl
    have HEK:=hide eK
    have hsv:=HSE.out (a+j) haj
    have hw:=with_any key ob nb cb oR cR oK cK (servedOf l (a+j)) wr ((lastS l a j).map (newF key)) (by rw [List.length_map,lastS_len];omega) (ownL.rds (L:=layT) HOW.out) (by rw [List.length_map,lastS_len];exact hroom.1) hroom.2 ((rK.kept HBV1.out (Nat.le_refl _)).le (Nat.le_trans (Nat.le_of_lt hs2) hsr)) (by omega) HK.out hsv.1
    rw [lastS_step l a j key (by omega)] at hw
    simp only [List.length_map,lastS_len] at hw
    have HW:=hide hw
    clear hw hsv rK hrow eK
    obtain ⟨nk,hnk⟩:∃n,(servedOf l (a+j)).length=n:=⟨_,rfl⟩
    rw [hnk] at hcl HW HEK
    clear hnk
    go_wp2_with fail
    refine HW.out.mono ?_
    rintro e v2 ⟨o2,c2,rfl,ow2,hb2⟩
    have hsz2:=hb2.size
    have hx2:=(hb2.block _ (show v1.heap.size < wr.heap.size by omega)).trans HBX.out
    have a0:v2.cell? ⟨v1.heap.size,0,none⟩=some (.int .i64 key):=bx_cell hx2 0 _ rfl
    have f0:=bx_frozen hx2 0
    have a1:v2.cell? ⟨v1.heap.size,1,none⟩=some (.slice ob nb cb):=bx_cell hx2 1 _ rfl
    have f1:=bx_frozen hx2 1
    have a2:v2.cell? ⟨v1.heap.size,2,none⟩=some (.slice oR j cR):=bx_cell hx2 2 _ rfl
    have f2:=bx_frozen hx2 2
    have HX9:Hid ((setP v2 v1.heap.size (.int .i64 key) (.slice oK nk cK) (.slice o2 (j+1) c2)).heap[v1.heap.size]? =some (.cells #[.int .i64 key,.slice oK nk cK,.slice o2 (j+1) c2] 255 (0,0))):=box_put (box_put (box_put hx2 0 _) 1 _) 2 _
    have HO9':=hide (own_low (own_low (own_low (own_mono ow2 hsr) hs2 0 (.int .i64 key)) hs2 1 (.slice oK nk cK)) hs2 2 (.slice o2 (j+1) c2))
    have HS9':=hide ((HST.out.trans (Stp.of hb2)).trans (stp_setQ v2 v1.heap.size (.int .i64 key) (.slice oK nk cK) (.slice o2 (j+1) c2)))
    have hs9:W1.heap.size≤v2.heap.size:=by omega
    clear ow2 hb2 hx2 p0 p1 p2
    go_wp2
    go_roundw
    case rel=> exact ⟨j+1,o2,c2,oK,nk,cK,by omega,by go_num,HX9.out,HEK.out,HO9'.out,HS9'.out,by simpa using hs9⟩
    case measure=> simp [intOf];omega
   ·skip
    have e:j=M:=by omega
    subst e
    have hln:a+(j - 1)=l.length:=by have:=HN.out;omega
    have hrow:=HS9.out.row l.length (by omega)
    obtain ⟨oK,cK,eK,rK⟩:=ownL.open (L:=layK) hrow
    have hcap:=own_capK (eK ▸ hrow)
    have hbv:=bvS_last hs a j l.length hM1 hln
    rw [HBV.out,eK] at hbv
    injection hbv with e1 e2 e3
    subst e1 e2 e3
    have hsv:=HSE.out l.length (by omega)
    have hp:=plain_any key ob cb (servedOf l l.length) oR cR ((lastS l a j).map (newF key)) wr ((rK.kept HBV1.out (Nat.le_refl _)).le (Nat.le_trans (Nat.le_of_lt hs2) hsr)) hcap (by omega) (ownL.rds (L:=layT) HOW.out) (by rw [List.length_map,lastS_len];omega)
    rw [last_tabs (lastS_ok (fun q hq=> (HSE.out q hq).1) j (by have:=HN.out;omega))] at hp
    simp only [List.length_map,lastS_len] at hp
    have hring:lastS l a j=ringR l l.length:=by rw [ringR_last,←HN.out,HA.out,HM.out]
    rw [hring] at hp
    have HP:=hide hp
    clear hp hring hrow eK rK hsv
    obtain ⟨sv,hsv⟩:∃s,servedOf l l.length=s:=⟨_,rfl⟩
    rw [hsv] at HP HPM p1
    obtain ⟨rg,hrg⟩:∃s,ringT key (ringR l l.length)=s:=⟨_,rfl⟩
    rw [hrg] at HP HPM
    clear hsv hrg
    go_wp2_with fail
    refine HP.out.mono ?_
    rintro e v3 ⟨v9,rfl,hin,hb3⟩
    have HIN:=hide hin
    have hs4:=hb3.size
    clear hin
    obtain ⟨o9,c9',oR9,cR9,e9⟩:∃(o9:Option Addr) (c9:Nat) (oR9:Option Addr) (cR9:Nat),v9=plv key (.slice o9 sv.length c9) (.slice oR9 rg.length cR9):=HIN.out.opn
    subst e9
    have hrb:=(hb3.block _ (show w.heap.size+1 < wr.heap.size by omega)).trans ((HBV1.out.block _ (show w.heap.size+1 < v1.heap.size by omega)).trans HBLK.out)
    have r0:v3.cell? ⟨w.heap.size+1,0,none⟩=some (.int .i64 0):=bx_cell hrb 0 _ rfl
    have fr0:=bx_frozen hrb 0
    have r1:v3.cell? ⟨w.heap.size+1,1,none⟩=some (.slice none 0 0):=bx_cell hrb 1 _ rfl
    have fr1:=bx_frozen hrb 1
    have r2:v3.cell? ⟨w.heap.size+1,2,none⟩=some (.slice none 0 0):=bx_cell hrb 2 _ rfl
    have fr2:=bx_frozen hrb 2
    have HBF:=hide ((HB.out.trans (HBV1.out.mono HB.out.size)).trans (hb3.mono (by omega)))
    clear hb3 hrb
    go_wp2
    refine bodyPost_ret (v:=.tuple #[plv key (.slice o9 sv.length c9') (.slice oR9 rg.length cR9),.bool true]) (by simp [results,Tryz.results157,go_sem,r0,r1,r2]) rfl ⟨_,rfl, ?_,setQ_below HBF.out (Nat.le_succ _) _ _ _⟩
    rw [HPM.out,if_pos trivial,setQ_size]
    exact InPm.mono (HIN.out.step (stp_setQ v3 (w.heap.size+1) _ _ _) (.inl (by omega))) (by omega)
theorem balIn_open {lo hi:Nat} {w:World} {v:Value} {m:Bm} (h:InBm lo hi w v m) (hh:hi≤w.heap.size):∃(o:Option Addr) (c:Nat) (ob:Option Addr) (cb:Nat) (oR:Option Addr) (cR:Nat) (ot:Option Addr) (ct:Nat),v=balv m.j.key (.slice o m.j.l.length c) m.j.safe m.p.key (.slice ob m.p.l.length cb) (.slice oR m.p.ring.length cR) (.slice ot m.t.length ct)∧RdC w.heap.size w o m.j.l∧(o=none→c=0)∧RdPm w.heap.size w (plv m.p.key (.slice ob m.p.l.length cb) (.slice oR m.p.ring.length cR)) m.p∧RdS w.heap.size w ot m.t:=by
 obtain ⟨vl,vb,vr,vt,j0,j1,p0,p1,t0,t1,e,kk,hj,hp,ht⟩:=h
 have cj:=hj.cap
 obtain ⟨vl',e1,o,c,e1',r1⟩:=hj.rd
 obtain ⟨ob,cb,oR,cR,e2⟩:=hp.opn
 obtain ⟨vt',e3,ot,ct,e3',r3⟩:=ht.rd
 simp only [Value.agg.injEq,Array.mk.injEq,List.cons.injEq,and_true,true_and] at e1 e2 e3
 obtain ⟨e21,e22⟩:=e2
 subst e1 e1' e3 e3' e21 e22
 exact ⟨o,c,ob,cb,oR,cR,ot,ct,e,r1.le (by omega),capJm.one cj,hp.rd.le (by omega),r3.le (by omega)⟩
end Go.Proofs.YtgplppfbinfelaaGreat
