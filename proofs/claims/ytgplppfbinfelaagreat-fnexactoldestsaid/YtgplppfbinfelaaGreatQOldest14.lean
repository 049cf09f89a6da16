/- Several texts in one: SBacks2, PlaceMath, SCmd, LCmd, LCmds, ShJ. -/
import Derived.Test.YtgplppfbinfelaaGreatQOldest13
import Derived.Test.YtgplppfbinfelaaGreatQOldest04
namespace Go.Proofs.YtgplppfbinfelaaGreat
open Go.ChangeShapes Go.WideShapes Go.ChangeAt Go.RowKit Go.Joins
set_option linter.unusedVariables false
set_option linter.unusedSimpArgs false
set_option maxRecDepth 100000
set_option maxHeartbeats 40000000
theorem backB_lt (i g:Int):backB i g=((decide (0≤i) && decide (i < 6)) && (decide (1≤g) && decide (g≤100))):=by simp [backB,Bool.and_assoc]
theorem isBack_any (n:Int) (w:World):Calls Tryz.prog 74 #[.int .i64 n] w fun e w'=> e=.returned (.bool (decide (0≤n) && decide (n < 6)))∧w=w':=by
 go_enter Tryz.func74,Tryz.ntmps74
 go_wp2
 all_goals go_ret
 all_goals refine ⟨?_,rfl⟩
 all_goals first|(simp [*];done)|(simp;omega)
theorem isWeight_any (n:Int) (w:World):Calls Tryz.prog 255 #[.int .i64 n] w fun e w'=> e=.returned (.bool (decide (1≤n) && decide (n≤100)))∧w=w':=by
 go_enter Tryz.func255,Tryz.ntmps255
 go_wp2
 all_goals go_ret
 all_goals refine ⟨?_,rfl⟩
 all_goals first|(simp [*];done)|(simp;omega)
theorem backOk_any (i g:Int) (d:Bool) (w:World):Calls Tryz.prog 260 #[back i g d] w fun e w'=> e=.returned (.bool (backB i g))∧Below w.heap.size w w':=by
 have hB:Below w.heap.size w w:=Below.refl _ _
 rw [backB_lt]
 cases hi:(decide (0≤i) && decide (i < 6)) with
 |false=>
  go_enter Tryz.func260,Tryz.ntmps260
  go_wp2_with (first|(go_at_call 74;refine (isBack_any i _).mono ?_;rw [hi];rintro e w1 ⟨rfl,rfl⟩))
  go_ret
  exact ⟨rfl,by (repeat (first|with_reducible (first|exact hB|exact Below.refl _ _|refine Below.drew ?_|refine below_drewN ?_ _|refine Below.alloc ?_ ?_ _|refine Below.setCell ?_ ?_ _)|(focus (simp;first|done|omega))|omega))⟩
 |true=>
  generalize hg:(decide (1≤g) && decide (g≤100))=r
  go_enter Tryz.func260,Tryz.ntmps260
  go_wp2_with (first|(go_at_call 74;refine (isBack_any i _).mono ?_;rw [hi];rintro e w1 ⟨rfl,rfl⟩)|(go_at_call 255;refine (isWeight_any g _).mono ?_;rw [hg];rintro e w1 ⟨rfl,rfl⟩))
  go_ret
  exact ⟨rfl,by (repeat (first|with_reducible (first|exact hB|exact Below.refl _ _|refine Below.drew ?_|refine below_drewN ?_ _|refine Below.alloc ?_ ?_ _|refine Below.setCell ?_ ?_ _)|(focus (simp;first|done|omega))|omega))⟩
theorem box3 (w:World) (x y z:Value) (t:TypeId):(w.alloc (.cells #[x,y,z] t)).cell? ⟨w.heap.size,0,none⟩=some x∧(w.alloc (.cells #[x,y,z] t)).cell? ⟨w.heap.size,1,none⟩=some y∧(w.alloc (.cells #[x,y,z] t)).cell? ⟨w.heap.size,2,none⟩=some z:=by simp
theorem alloc_old (w:World) (o:Obj) {b off:Nat} {u:Value} (h:w.cell? ⟨b,off,none⟩=some u) (hb:b < w.heap.size):(w.alloc o).cell? ⟨b,off,none⟩=some u:=
 ((Below.alloc (Below.refl _ _) (Nat.le_refl _) o).cell (p:=⟨b,off,none⟩) hb).trans h
theorem implBacksOk_any (o:Option Addr) (cap:Nat) (l:List Bk) (w:World) (hR:RdK w.heap.size w o l) (hlen:l.length≤1048576):
  Calls Tryz.prog 249 #[.slice o l.length cap] w fun e w'=> e=.returned (.bool (backsOkB l))∧Below w.heap.size w w':=by
 go_enter Tryz.func249,Tryz.ntmps249
 go_wp2
 go_loopw [2,7] (fun rv i wr=> ∃k:Nat,k≤l.length∧i=.int .i64 k∧rv=.bool false∧okTo l k∧Below w.heap.size w wr)
  (fun _ i _=> l.length - (intOf i).toNat)
 case atStart=> exact ⟨0,Nat.zero_le _,rfl,rfl,fun i hi=> absurd hi (Nat.not_lt_zero _),Below.refl _ _⟩
 case round=>
  obtain ⟨k,hk,rfl,rfl,hok,hBr⟩:=hrel
  by_cases hlt:k < l.length
  ·rcases hR with hR|⟨b,off,rfl,hbl,hcell⟩
   ·subst hR;simp at hlt
   obtain ⟨x,y,z,hxy⟩:∃x y z,l.getD k (0,0,false)=(x,y,z):=⟨_,_,_,rfl⟩
   have hcx:=RdL.back (C:=w.heap.size) hcell k hlt
   rw [hxy] at hcx
   have hc0:wr.cell? ⟨b,off+k * 3,none⟩=some (.int .i64 x):=(hBr.cell (p:=⟨b,off+k * 3,none⟩) hbl).trans hcx.1
   have hc1:wr.cell? ⟨b,off+k * 3+1,none⟩=some (.int .i64 y):=(hBr.cell (p:=⟨b,off+k * 3+1,none⟩) hbl).trans hcx.2.1
   have hc2:wr.cell? ⟨b,off+k * 3+2,none⟩=some (.bool z):=(hBr.cell (p:=⟨b,off+k * 3+2,none⟩) hbl).trans hcx.2.2
   have hlr:=Nat.lt_of_lt_of_le hbl hBr.size
   have HB:=hide hBr
   have HO:=hide hok
   have i1:(k:Int) < (l.length:Int):=by omega
   clear hBr hok hcx
   obtain ⟨p0,p1,p2⟩:=box3 wr (.int .i64 x) (.int .i64 y) (.bool z) 226
   have HA:Hid (Below w.heap.size w (wr.alloc (Obj.cells #[Value.int IntKind.i64 x,Value.int IntKind.i64 y,Value.bool z] 226))):=HB.out.alloc HB.out.size _
   have hs:wr.heap.size < (wr.alloc (Obj.cells #[Value.int IntKind.i64 x,Value.int IntKind.i64 y,Value.bool z] 226)).heap.size:=by simp
   rcases k with _|j
   ·have HZ:=hide (okAt_zero hxy)
    clear hcell hxy
    simp only [Nat.zero_mul,Nat.add_zero] at hc0 hc1 hc2
    go_wp2
    generalize wr.alloc (Obj.cells #[Value.int IntKind.i64 x,Value.int IntKind.i64 y,Value.bool z] 226)=w0 at *
    have g0:=Grown.cell p0 hs
    have g1:=Grown.cell p1 hs
    have g2:=Grown.cell p2 hs
    clear hc0 hc1 hc2 p0 p1 p2
    cases hbk:backB x y with
    |false=>
     have HN:=hide (backsOkB_no hlt (HZ.out.trans hbk))
     clear HZ HO
     (refine wp_region_grown (by kernel_rfl) (by kernel_rfl) ?_;intro hne9;(repeat (go_big_quiet_step ((go_at_call 260;exact grown_of _ (hbk ▸ backOk_any x y z _)))));(with_reducible refine wpQuiet_nil ?_);intro _ hw9;obtain ⟨pq,hw8⟩:=hw9;subst hw8)
     go_wp2
     go_ret
     exact ⟨ret_bool HN.out,HA.out.trans (pq.b.mono HA.out.size)⟩
    |true=>
     have HY:=hide (okTo_succ HO.out (HZ.out.trans hbk))
     clear HZ HO
     (refine wp_region_grown (by kernel_rfl) (by kernel_rfl) ?_;intro hne9;(repeat (go_big_quiet_step ((go_at_call 260;exact grown_of _ (hbk ▸ backOk_any x y z _)))));(with_reducible refine wpQuiet_nil ?_);intro _ hw9;obtain ⟨pq,hw8⟩:=hw9;subst hw8)
     go_wp2
     go_roundw
     case rel=> exact ⟨1,by omega,by go_num,rfl,HY.out,HA.out.trans (pq.b.mono HA.out.size)⟩
     case measure=> simp [intOf];omega
   ·obtain ⟨x',y',z',hxy'⟩:∃x y z,l.getD j (0,0,false)=(x,y,z):=⟨_,_,_,rfl⟩
    have hcx:=RdL.back (C:=w.heap.size) hcell j (by omega)
    rw [hxy'] at hcx
    have hc3:wr.cell? ⟨b,off+j * 3,none⟩=some (.int .i64 x'):=(HB.out.cell (p:=⟨b,off+j * 3,none⟩) hbl).trans hcx.1
    have p3:=alloc_old wr (Obj.cells #[Value.int IntKind.i64 x,Value.int IntKind.i64 y,Value.bool z] 226) hc3 hlr
    have HZ:=hide (okAt_succ hxy hxy')
    have i2:(j:Int) < (l.length:Int):=by omega
    have i3:0 < (j:Int)+1:=by omega
    clear hcell hxy hxy' hcx hc3
    have hls:b < (wr.alloc (Obj.cells #[Value.int IntKind.i64 x,Value.int IntKind.i64 y,Value.bool z] 226)).heap.size:=Nat.lt_trans hlr hs
    go_wp2
    generalize wr.alloc (Obj.cells #[Value.int IntKind.i64 x,Value.int IntKind.i64 y,Value.bool z] 226)=w0 at *
    have g0:=Grown.cell p0 hs
    have g1:=Grown.cell p1 hs
    have g2:=Grown.cell p2 hs
    have g3:=Grown.cell p3 hls
    clear hc0 hc1 hc2 p0 p1 p2 p3
    cases hbk:backB x y with
    |false=>
     have HN:=hide (backsOkB_no hlt (HZ.out.trans (by rw [hbk];rfl)))
     clear HZ HO
     (refine wp_region_grown (by kernel_rfl) (by kernel_rfl) ?_;intro hne9;(repeat (go_big_quiet_step ((go_at_call 260;exact grown_of _ (hbk ▸ backOk_any x y z _)))));(with_reducible refine wpQuiet_nil ?_);intro _ hw9;obtain ⟨pq,hw8⟩:=hw9;subst hw8)
     go_wp2
     go_ret
     exact ⟨ret_bool HN.out,HA.out.trans (pq.b.mono HA.out.size)⟩
    |true=>
     by_cases h5:x≤x'
     ·have HN:=hide (backsOkB_no hlt (HZ.out.trans (by simp [hbk];omega)))
      clear HZ HO
      (refine wp_region_grown (by kernel_rfl) (by kernel_rfl) ?_;intro hne9;(repeat (go_big_quiet_step ((go_at_call 260;exact grown_of _ (hbk ▸ backOk_any x y z _)))));(with_reducible refine wpQuiet_nil ?_);intro _ hw9;obtain ⟨pq,hw8⟩:=hw9;subst hw8)
      go_wp2
      go_ret
      exact ⟨ret_bool HN.out,HA.out.trans (pq.b.mono HA.out.size)⟩
     ·have d5:decide (x≤x')=false:=decide_eq_false h5
      have HY:=hide (okTo_succ HO.out (HZ.out.trans (by simp [hbk];omega)))
      clear HZ HO
      (refine wp_region_grown (by kernel_rfl) (by kernel_rfl) ?_;intro hne9;(repeat (go_big_quiet_step ((go_at_call 260;exact grown_of _ (hbk ▸ backOk_any x y z _)))));(with_reducible refine wpQuiet_nil ?_);intro _ hw9;obtain ⟨pq,hw8⟩:=hw9;subst hw8)
      go_wp2
      go_roundw
      case rel=> exact ⟨j+1+1,by omega,by go_num,rfl,HY.out,HA.out.trans (pq.b.mono HA.out.size)⟩
      case measure=> simp [intOf];omega
  ·have e:k=l.length:=by omega
   subst e
   have HE:=hide (backsOkB_iff.2 hok).symm
   go_wp2
   go_ret
   exact ⟨ret_bool HE.out,hBr⟩
def placeN (l:List Bk) (id:Int):Nat:=(l.takeWhile (fun b=> decide (b.1 < id))).length
theorem placeN_le (l:List Bk) (id:Int):placeN l id≤l.length:=by
 unfold placeN;exact (List.takeWhile_sublist _).length_le
theorem placeN_lt:∀(l:List Bk) (id:Int) (k:Nat),k < placeN l id→(l.getD k (0,0,false)).1 < id
 |[],id,k,h=> by simp [placeN] at h
 |b::l,id,k,h=> by
  unfold placeN at h
  rw [List.takeWhile_cons] at h
  by_cases hb:b.1 < id
  ·simp [hb] at h
   cases k with
   |zero=> simpa using hb
   |succ k=> simpa using placeN_lt l id k (by unfold placeN;omega)
  ·simp [hb] at h
theorem placeN_at:∀(l:List Bk) (id:Int),placeN l id < l.length→¬(l.getD (placeN l id) (0,0,false)).1 < id
 |[],id,h=> by simp at h
 |b::l,id,h=> by
  by_cases hb:b.1 < id
  ·have e:placeN (b::l) id=placeN l id+1:=by unfold placeN;rw [List.takeWhile_cons];simp [hb]
   rw [e] at h ⊢
   simpa using placeN_at l id (by simpa using h)
  ·have e:placeN (b::l) id=0:=by unfold placeN;rw [List.takeWhile_cons];simp [hb]
   rw [e]
   simpa using hb
theorem placeN_eq {l:List Bk} {id:Int} {k:Nat} (hk:k≤l.length) (h1:∀j,j < k→(l.getD j (0,0,false)).1 < id) (h2:k=l.length∨¬(l.getD k (0,0,false)).1 < id):placeN l id=k:=by
 rcases Nat.lt_trichotomy (placeN l id) k with h|h|h
 ·exact absurd (h1 _ h) (placeN_at l id (by omega))
 ·exact h
 ·have:=placeN_lt l id k h
  have:=placeN_le l id
  rcases h2 with h2|h2
  ·omega
  ·exact absurd ‹_› h2
def thereB (l:List Bk) (id:Int):Bool:=decide (placeN l id < l.length) && ((l.getD (placeN l id) (0,0,false)).1==id)
def doL (l:List Bk) (k i g:Int):Option (List Bk):=
 if thereB l i=(k==0) then none
 else some (
  if k=0 then l.take (placeN l i)++(i,g,false)::l.drop (placeN l i)
  else if k=1 then l.set (placeN l i) (i,g,(l.getD (placeN l i) (0,0,false)).2.2)
  else if k=2 then l.set (placeN l i) (i,(l.getD (placeN l i) (0,0,false)).2.1,true)
  else l.take (placeN l i)++l.drop (placeN l i+1))
theorem placeOf_any (o:Option Addr) (cap:Nat) (l:List Bk) (id:Int) (w:World) (hR:RdK w.heap.size w o l) (hl:l.length≤1048576):
  Calls Tryz.prog 240 #[.slice o l.length cap,.int .i64 id] w fun e w'=> e=.returned (.tuple #[.int .i64 (placeN l id),.bool (thereB l id)])∧Below w.heap.size w w':=by
 go_enter Tryz.func240,Tryz.ntmps240
 go_wp2
 go_loop [6] (fun av=> ∃k:Nat,k≤l.length∧av=.int .i64 k∧Hid (∀j,j < k→(l.getD j (0,0,false)).1 < id))
  (fun av=> l.length - (intOf av).toNat)
 case atStart=> exact ⟨0,Nat.zero_le _,rfl,fun j hj=> absurd hj (Nat.not_lt_zero _)⟩
 case round=>
  obtain ⟨k,hk,rfl,HJ⟩:=hrel
  by_cases hlt:k < l.length
  ·rcases hR with hR|⟨b,off,rfl,hbl,hcell⟩
   ·subst hR;simp at hlt
   obtain ⟨x,y,z,hxy⟩:∃x y z,l.getD k (0,0,false)=(x,y,z):=⟨_,_,_,rfl⟩
   have hcx:=(RdL.back (C:=w.heap.size) hcell k hlt).1
   rw [hxy] at hcx
   dsimp only at hcx
   have z1:(k:Int) < (l.length:Int):=by omega
   by_cases hx:x < id
   ·have HJ2:Hid (∀j,j < k+1→(l.getD j (0,0,false)).1 < id):=fun j hj=> by
     rcases Nat.lt_succ_iff_lt_or_eq.1 hj with h|h
     ·exact HJ.out j h
     ·rw [h,hxy];exact hx
    clear hxy hcell
    go_wp2
    go_round
    case rel=> exact ⟨k+1,by omega,by go_num,HJ2⟩
    case measure=> simp [intOf];omega
   ·have hp:placeN l id=k:=placeN_eq (Nat.le_of_lt hlt) HJ.out (.inr (by rw [hxy];exact hx))
    have HT:=hide (show thereB l id=(x==id) by unfold thereB;rw [hp,hxy];simp [hlt])
    have HP:=hide hp
    have G0:=Grown.cell hcx hbl
    clear hxy hcell hp HJ
    go_wp2
    (refine wp_region_grown (by kernel_rfl) (by kernel_rfl) ?_;intro hne9;(repeat (go_big_quiet_step ((fail))));(with_reducible refine wpQuiet_nil ?_);intro _ hw9;obtain ⟨pq,hw8⟩:=hw9;subst hw8)
    have HB:=hide pq.b
    go_wp2
    go_ret2
    exact ⟨by rw [HP.out,HT.out];rfl,HB.out⟩
  ·have e:k=l.length:=by omega
   have hp:placeN l id=l.length:=placeN_eq (Nat.le_refl _) (e ▸ HJ.out) (.inl rfl)
   have HT:=hide (show thereB l id=false by unfold thereB;rw [hp];simp)
   have HP:=hide hp
   subst e
   clear hp HJ
   go_wp2
   (refine wp_region_grown (by kernel_rfl) (by kernel_rfl) ?_;intro hne9;(repeat (go_big_quiet_step ((fail))));(with_reducible refine wpQuiet_nil ?_);intro _ hw9;obtain ⟨pq,hw8⟩:=hw9;subst hw8)
   have HB:=hide pq.b
   go_wp2
   go_ret2
   exact ⟨by rw [HP.out,HT.out];rfl,HB.out⟩
def CmdOk (k i g:Int):Prop:=0≤k∧k≤3∧0≤i∧i < 6∧((k≤1∧1≤g∧g≤100)∨(2≤k∧g=0))
def cmdOkB (k i g:Int):Bool:=decide (0≤k) && decide (k≤3) && decide (0≤i) && decide (i < 6) && ((decide (k≤1) && decide (1≤g) && decide (g≤100))||(decide (2≤k) && decide (g=0)))
theorem cmdOkB_iff {k i g:Int}:cmdOkB k i g=true↔CmdOk k i g:=by simp [cmdOkB,CmdOk,and_assoc]
abbrev cmd (k i g:Int):Value:=.agg #[.int .i64 k,.int .i64 i,.int .i64 g]
theorem cmdOkB_yes {k i g:Int} {t:Bool} (h:t=true↔CmdOk k i g):t=cmdOkB k i g:=by
 rw [Bool.eq_iff_iff,h,cmdOkB_iff]
theorem specPoolCmdOk_any (k i g:Int) (w:World):
  Calls Tryz.prog 146 #[cmd k i g] w fun e w'=> e=.returned (.bool (cmdOkB k i g))∧Below w.heap.size w w':=by
 have hB:Below w.heap.size w w:=Below.refl _ _
 go_enter Tryz.func146,Tryz.ntmps146
 go_wp2
 all_goals go_ret
 all_goals refine ⟨ret_bool (cmdOkB_yes ?_),by (repeat (first|with_reducible (first|exact hB|exact Below.refl _ _|refine Below.drew ?_|refine below_drewN ?_ _|refine Below.alloc ?_ ?_ _|refine Below.setCell ?_ ?_ _)|(focus (simp;first|done|omega))|omega))⟩
 all_goals (simp [CmdOk];omega)
theorem implPoolCmdOk_any (k i g:Int) (w:World):
  Calls Tryz.prog 239 #[cmd k i g] w fun e w'=> e=.returned (.bool (cmdOkB k i g))∧Below w.heap.size w w':=by
 have hB:Below w.heap.size w w:=Below.refl _ _
 have hb:=fun w=> isBack_any i w
 have hg:=fun w=> isWeight_any g w
 generalize hI:(decide (0≤i) && decide (i < 6))=I at hb
 generalize hG:(decide (1≤g) && decide (g≤100))=G at hg
 have HI:=hide (show I=true↔0≤i∧i < 6 by rw [←hI];simp)
 have HG:=hide (show G=true↔1≤g∧g≤100 by rw [←hG];simp)
 clear hI hG
 cases I <;> cases G
 all_goals (
  go_enter Tryz.func239,Tryz.ntmps239
  go_wp2_with (first|(go_at_call 74;refine (hb _).mono ?_;rintro e w1 ⟨rfl,rfl⟩)|(go_at_call 255;refine (hg _).mono ?_;rintro e w1 ⟨rfl,rfl⟩))
  all_goals go_ret
  all_goals refine ⟨ret_bool (cmdOkB_yes ?_),by (repeat (first|with_reducible (first|exact hB|exact Below.refl _ _|refine Below.drew ?_|refine below_drewN ?_ _|refine Below.alloc ?_ ?_ _|refine Below.setCell ?_ ?_ _)|(focus (simp;first|done|omega))|omega))⟩
  all_goals (have h1:=HI.out;have h2:=HG.out;(try simp only [beq_iff_eq,beq_eq_false_iff_ne,ne_eq] at *);simp at h1 h2;simp [CmdOk];try omega))
theorem cellsLawsCmd:Tryz.prog.cellsOf 273=3:=by kernel_rfl
theorem toPoolCmd_any (a b c:Int) (w:World):
  Calls Tryz.prog 193 #[cmd a b c] w fun e w'=> e=.returned (cmd a b c)∧Below w.heap.size w w':=by
 have hB:Below w.heap.size w w:=Below.refl _ _
 go_enter Tryz.func193,Tryz.ntmps193
 go_wp2
 refine bodyPost_ret (v:=.agg #[.int .i64 a,.int .i64 b,.int .i64 c]) (by simp [results,Tryz.results193,go_sem]) rfl ⟨rfl, ?_⟩
 (repeat (first|with_reducible (first|exact hB|exact Below.refl _ _|refine Below.drew ?_|refine below_drewN ?_ _|refine Below.alloc ?_ ?_ _|refine Below.setCell ?_ ?_ _)|(focus (simp;first|done|omega))|omega))
abbrev Cd:=Int × Int × Int
def layC:Lay Cd:=⟨3,fun a=> [.int .i64 a.1,.int .i64 a.2.1,.int .i64 a.2.2],(0,0,0),fun _=> rfl⟩
abbrev RdC:=RdL layC
abbrev ownC:=ownL layC 221
theorem RdL.cmd {C:Nat} {w:World} {b off:Nat} {l:List Cd} (h:∀i,i < l.length→∀j,j < layC.k→w.cell? ⟨b,off+i * layC.k+j,none⟩=(layC.cs (l.getD i layC.d))[j]?) (i:Nat) (hi:i < l.length):
  w.cell? ⟨b,off+i * 3,none⟩=some (.int .i64 (l.getD i (0,0,0)).1)∧w.cell? ⟨b,off+i * 3+1,none⟩=some (.int .i64 (l.getD i (0,0,0)).2.1)∧w.cell? ⟨b,off+i * 3+2,none⟩=some (.int .i64 (l.getD i (0,0,0)).2.2):=
 ⟨h i hi 0 (by decide),h i hi 1 (by decide),h i hi 2 (by decide)⟩
theorem infoCmd:(Tryz.prog.info? 221).map (fun i=> (i.zero,i.size,i.bytes))=some (some (.agg #[.int .i64 0,.int .i64 0,.int .i64 0]),3,24):=by kernel_rfl
theorem cellsInt1c:Tryz.prog.cellsOf 3=1:=by kernel_rfl
theorem open_cmds_cells {H:Type} {enc:TypeId × Value→H} {W:World} {fuel:Nat} {cs:List Value} {x:DataW H × List MemPlace} (h:DataW.trod enc Tryz.prog W 0 (fun _=> true) true fuel 22 cs=some x):
  ∃(o:Option Addr) (cap:Nat) (l:List Cd),cs=[.slice o l.length cap]∧l.length≤maxLen∧RdC W.heap.size W o l:=by
 refine open_list layC (by decide) Tryz.underlying22 cellsLawsCmd ?_ h
 intro n cs y hl hy
 match cs,hl with
 |[c0,c1,c2],_=>
  obtain ⟨y0,y1,y2,m,_,_,h0,h1,h2⟩:=Go.Deep.trod_struct3 Tryz.underlying273 hy
  simp [cellsInt1c] at h0 h1 h2
  obtain ⟨a,e0,_,_⟩:=DataW.trod_int Tryz.underlying3 h0
  obtain ⟨b,e1,_,_⟩:=DataW.trod_int Tryz.underlying3 h1
  obtain ⟨c,e2,_,_⟩:=DataW.trod_int Tryz.underlying3 h2
  simp at e0 e1 e2
  subst e0 e1 e2
  exact ⟨(a,b,c),rfl⟩
theorem eqPoolCmd_same (i g d:Int) (w:World):
  Calls Tryz.prog 206 #[cmd i g d,cmd i g d] w fun e w'=> e=.returned (.bool true)∧Below w.heap.size w w':=by
 have hB:Below w.heap.size w w:=Below.refl _ _
 go_enter Tryz.func206,Tryz.ntmps206
 go_wp2
 all_goals go_ret
 all_goals exact ⟨rfl,by (repeat (first|with_reducible (first|exact hB|exact Below.refl _ _|refine Below.drew ?_|refine below_drewN ?_ _|refine Below.alloc ?_ ?_ _|refine Below.setCell ?_ ?_ _)|(focus (simp;first|done|omega))|omega))⟩
theorem szPoolCmdS_any (o:Option Addr) (len cap:Nat) (n:Int) (w:World) (hl:len≤maxLen) (h0:0≤n) (h1:n≤1048576):
  Calls Tryz.prog 140 #[.slice o len cap,.int .i64 n] w fun e w'=> e=.returned (.int .i64 (if n - len < 0 then -1 else n - len))∧w=w':=by
 unfold maxLen at hl
 by_cases h:n - len < 0
 ·rw [if_pos h]
  go_enter Tryz.func140,Tryz.ntmps140
  go_wp2
  go_ret
  exact ⟨rfl,rfl⟩
 ·rw [if_neg h]
  go_enter Tryz.func140,Tryz.ntmps140
  go_wp2
  go_ret
  exact ⟨rfl,rfl⟩
theorem fillC_step {w wr:World} {base g c:Nat} {l:List Cd} {k:Nat} {x y z:Int} (hxy:l.getD k (0,0,0)=(x,y,z)) (hk:k < l.length) (hg:base≤g) (hown:wr.ownsRow w.heap.size 221 3 (.slice (some ⟨g,0,none⟩) l.length c) l.length ((fillL layC l k).flatMap layC.cs))
  (hB:Below base w wr):(((wr.setCell ⟨g,k * 3,none⟩ (.int .i64 x)).setCell ⟨g,k * 3+1,none⟩ (.int .i64 y)).setCell ⟨g,k * 3+2,none⟩ (.int .i64 z)).ownsRow w.heap.size 221 3 (.slice (some ⟨g,0,none⟩) l.length c) l.length ((fillL layC l (k+1)).flatMap layC.cs)∧
   Below base w (((wr.setCell ⟨g,k * 3,none⟩ (.int .i64 x)).setCell ⟨g,k * 3+1,none⟩ (.int .i64 y)).setCell ⟨g,k * 3+2,none⟩ (.int .i64 z)):=by
 have h:=(((hown.stored (k * 3) (.int .i64 x)).1.stored (k * 3+1) (.int .i64 y)).1.stored (k * 3+2) (.int .i64 z)).1
 rw [flat_set3 layC rfl (a:=(x,y,z)) rfl,←hxy,show l.getD k (0,0,0)=l.getD k layC.d from rfl,fillL_set layC l k hk] at h
 exact ⟨h,((hB.setCell (p:=⟨g,k * 3,none⟩) hg _).setCell (p:=⟨g,k * 3+1,none⟩) hg _).setCell (p:=⟨g,k * 3+2,none⟩) hg _⟩
theorem toPoolCmdS_any (o:Option Addr) (cap:Nat) (l:List Cd) (w:World) (hR:RdC w.heap.size w o l) (hlen:l.length≤1048576):
  Calls Tryz.prog 152 #[.slice o l.length cap] w fun e w'=> ∃g,e=.returned (.slice (some ⟨g,0,none⟩) l.length l.length)∧ownC w' w.heap.size (.slice (some ⟨g,0,none⟩) l.length l.length) l∧Below w.heap.size w w':=by
 obtain ⟨i0,hi,hz0,hz1,hz2⟩:=info_parts infoCmd
 have hB:Below w.heap.size w w:=Below.refl _ _
 go_enter Tryz.func152,Tryz.ntmps152
 go_wp2_with (at_make;refine wpList_make_full _ rfl _ _ 41 rfl w.heap.size 221 i0 (.agg #[.int .i64 0,.int .i64 0,.int .i64 0]) 3 Tryz.underlying41 hi hz0 hz1 _ _ _ _ l.length rfl rfl rfl rfl ?b2 ?b3 ?b4 ?_)
 case b2=> rw [hz2];omega
 case b3=> unfold maxLen;omega
 case b4=> simp
 intro w1 hown hgrow
 have hB1:Below w.heap.size w w1:=hB.grown hgrow (Nat.le_refl _) (fun k h=> by cases h)
 have hown1:w1.ownsRow w.heap.size 221 3 (.slice (some ⟨w.heap.size,0,none⟩) l.length l.length) l.length ((fillL layC l 0).flatMap layC.cs):=by
  rw [fillL_zero,←made_flat layC (.agg #[.int .i64 0,.int .i64 0,.int .i64 0]) rfl];exact hown
 clear hown hgrow hB
 go_wp2
 go_loopw [4] (fun i wr=> ∃k:Nat,k≤l.length∧i=.int .i64 k∧wr.ownsRow w.heap.size 221 3 (.slice (some ⟨w.heap.size,0,none⟩) l.length l.length) l.length ((fillL layC l k).flatMap layC.cs)∧Below w.heap.size w wr)
  (fun i _=> l.length - (intOf i).toNat)
 case atStart=> exact ⟨0,Nat.zero_le _,rfl,hown1,hB1⟩
 case round=>
  obtain ⟨k,hk,rfl,hown,hBr⟩:=hrel
  by_cases hlt:k < l.length
  ·rcases hR with hR|⟨b,off,rfl,hbl,hcell⟩
   ·subst hR;simp at hlt
   obtain ⟨x,y,z,hxy⟩:∃x y z,l.getD k (0,0,0)=(x,y,z):=⟨_,_,_,rfl⟩
   have hcx:=RdL.cmd (C:=w.heap.size) hcell k hlt
   rw [hxy] at hcx
   have hc0:wr.cell? ⟨b,off+k * 3,none⟩=some (.int .i64 x):=(hBr.cell (p:=⟨b,off+k * 3,none⟩) hbl).trans hcx.1
   have hc1:wr.cell? ⟨b,off+k * 3+1,none⟩=some (.int .i64 y):=(hBr.cell (p:=⟨b,off+k * 3+1,none⟩) hbl).trans hcx.2.1
   have hc2:wr.cell? ⟨b,off+k * 3+2,none⟩=some (.int .i64 z):=(hBr.cell (p:=⟨b,off+k * 3+2,none⟩) hbl).trans hcx.2.2
   have HW:=hide (hlt)
   clear hcell hcx
   go_wp2_with fail
   refine (toPoolCmd_any _ _ _ _).mono ?_
   rintro e w2 ⟨rfl,hb2⟩
   have hB2:Below w.heap.size w w2:=hBr.trans (hb2.mono hBr.size)
   have hown2:=own_kept hown hb2
   have hln:((fillL layC l k).flatMap layC.cs).length=l.length * 3:=by rw [flat_length,fillL_length layC l k hk];rfl
   have hcl0:=hown2.cellAt (k * 3) (by omega)
   have hcl1:=hown2.cellAt (k * 3+1) (by omega)
   have hcl2:=hown2.cellAt (k * 3+2) (by omega)
   have hf0:=hown2.frozenAt (k * 3)
   have hf1:=hown2.frozenAt (k * 3+1)
   have hf2:=hown2.frozenAt (k * 3+2)
   obtain ⟨u0,hu0⟩:∃u,w2.cell? ⟨w.heap.size,k * 3,none⟩=some u:=⟨_,hcl0.trans (List.getElem?_eq_getElem (by omega))⟩
   obtain ⟨u1,hu1⟩:∃u,w2.cell? ⟨w.heap.size,k * 3+1,none⟩=some u:=⟨_,hcl1.trans (List.getElem?_eq_getElem (by omega))⟩
   obtain ⟨u2,hu2⟩:∃u,w2.cell? ⟨w.heap.size,k * 3+2,none⟩=some u:=⟨_,hcl2.trans (List.getElem?_eq_getElem (by omega))⟩
   have HR:=hide (fillC_step (g:=w.heap.size) hxy hlt (Nat.le_refl _) hown2 hB2)
   clear hxy hown hBr hcl0 hcl1 hcl2 hB1 hown1 hown2 hc0 hc1 hc2 hb2 hln
   go_wp2
   go_roundw
   case rel=> exact ⟨k+1,by omega,by go_num,HR.out.1,HR.out.2⟩
   case measure=> simp [intOf];omega
  ·have e:k=l.length:=by omega
   subst e
   rw [fillL_all] at hown
   go_wp2
   go_ret
   exact ⟨w.heap.size,rfl,hown,hBr⟩
theorem eqPoolCmdS_same (o1 o2:Option Addr) (c1 c2:Nat) (l:List Cd) (w:World) (h1:RdC w.heap.size w o1 l) (h2:RdC w.heap.size w o2 l) (hl:l.length≤1048576):
  Calls Tryz.prog 164 #[.slice o1 l.length c1,.slice o2 l.length c2] w fun e w'=> e=.returned (.bool true)∧Below w.heap.size w w':=by
 go_enter Tryz.func164,Tryz.ntmps164
 go_wp2
 go_loopw [5] (fun i wr=> ∃k:Nat,k≤l.length∧i=.int .i64 k∧Below w.heap.size w wr)
  (fun i _=> l.length - (intOf i).toNat)
 case atStart=> exact ⟨0,Nat.zero_le _,rfl,Below.refl _ _⟩
 case round=>
  obtain ⟨k,hk,rfl,hBr⟩:=hrel
  by_cases hlt:k < l.length
  ·rcases h1 with h1|⟨b1,off1,rfl,hb1,hcell1⟩
   ·subst h1;simp at hlt
   rcases h2 with h2|⟨b2,off2,rfl,hb2,hcell2⟩
   ·subst h2;simp at hlt
   obtain ⟨x,y,z,hxy⟩:∃x y z,l.getD k (0,0,0)=(x,y,z):=⟨_,_,_,rfl⟩
   have hcx1:=RdL.cmd (C:=w.heap.size) hcell1 k hlt
   have hcx2:=RdL.cmd (C:=w.heap.size) hcell2 k hlt
   rw [hxy] at hcx1 hcx2
   have p0:wr.cell? ⟨b1,off1+k * 3,none⟩=some (.int .i64 x):=(hBr.cell (p:=⟨b1,off1+k * 3,none⟩) hb1).trans hcx1.1
   have p1:wr.cell? ⟨b1,off1+k * 3+1,none⟩=some (.int .i64 y):=(hBr.cell (p:=⟨b1,off1+k * 3+1,none⟩) hb1).trans hcx1.2.1
   have p2:wr.cell? ⟨b1,off1+k * 3+2,none⟩=some (.int .i64 z):=(hBr.cell (p:=⟨b1,off1+k * 3+2,none⟩) hb1).trans hcx1.2.2
   have q0:wr.cell? ⟨b2,off2+k * 3,none⟩=some (.int .i64 x):=(hBr.cell (p:=⟨b2,off2+k * 3,none⟩) hb2).trans hcx2.1
   have q1:wr.cell? ⟨b2,off2+k * 3+1,none⟩=some (.int .i64 y):=(hBr.cell (p:=⟨b2,off2+k * 3+1,none⟩) hb2).trans hcx2.2.1
   have q2:wr.cell? ⟨b2,off2+k * 3+2,none⟩=some (.int .i64 z):=(hBr.cell (p:=⟨b2,off2+k * 3+2,none⟩) hb2).trans hcx2.2.2
   have HB:=hide hBr
   have hsr:=hide hBr.size
   clear hcell1 hcell2 hBr hcx1 hcx2 hxy
   have i1:(k:Int) < (l.length:Int):=by omega
   go_wp2
   go_region_held3 (fun w'=> w'.cell? ⟨b1,off1+k * 3,none⟩=some (.int .i64 x)∧w'.cell? ⟨b1,off1+k * 3+1,none⟩=some (.int .i64 y)∧w'.cell? ⟨b1,off1+k * 3+2,none⟩=some (.int .i64 z)∧w'.cell? ⟨b2,off2+k * 3,none⟩=some (.int .i64 x)∧w'.cell? ⟨b2,off2+k * 3+1,none⟩=some (.int .i64 y)∧w'.cell? ⟨b2,off2+k * 3+2,none⟩=some (.int .i64 z)) (first|exact ⟨p0,p1,p2,q0,q1,q2⟩) (first|(go_at_call 206;refine (eqPoolCmd_same _ _ _ _).mono ?_;rintro e w2 ⟨rfl,hb2'⟩;replace hb2':Below wr.heap.size wr w2:=(Below.drew (Below.refl _ _)).trans hb2';have p0:=(hb2'.cell (p:=⟨b1,off1+k * 3,none⟩) (Nat.lt_of_lt_of_le hb1 hsr.out)).trans p0;have p1:=(hb2'.cell (p:=⟨b1,off1+k * 3+1,none⟩) (Nat.lt_of_lt_of_le hb1 hsr.out)).trans p1;have p2:=(hb2'.cell (p:=⟨b1,off1+k * 3+2,none⟩) (Nat.lt_of_lt_of_le hb1 hsr.out)).trans p2;have q0:=(hb2'.cell (p:=⟨b2,off2+k * 3,none⟩) (Nat.lt_of_lt_of_le hb2 hsr.out)).trans q0;have q1:=(hb2'.cell (p:=⟨b2,off2+k * 3+1,none⟩) (Nat.lt_of_lt_of_le hb2 hsr.out)).trans q1;have q2:=(hb2'.cell (p:=⟨b2,off2+k * 3+2,none⟩) (Nat.lt_of_lt_of_le hb2 hsr.out)).trans q2))
   go_wp2
   go_roundw
   case rel=> exact ⟨k+1,by omega,by go_num,HB.out.trans (hb2'.mono HB.out.size)⟩
   case measure=> simp [intOf];omega
  ·have e:k=l.length:=by omega
   subst e
   go_wp2
   go_ret
   exact ⟨rfl,hBr⟩
structure Jm where
 key:Int
 l:List Cd
 safe:Int
abbrev jrn (k:Int) (v:Value) (s:Int):Value:=.agg #[.int .i64 k,v,.int .i64 s]
abbrev InC:=InL layC 221
def RdJm (C:Nat) (w:World) (v:Value) (m:Jm):Prop:=∃vl,v=jrn m.key vl m.safe∧RdV layC C w vl m.l
def InJm (lo hi:Nat) (w:World) (v:Value) (m:Jm):Prop:=∃vl,v=jrn m.key vl m.safe∧InC lo hi w vl m.l
theorem RdJm.kept {C D:Nat} {w w':World} {v:Value} {m:Jm} (h:RdJm C w v m) (hb:Below D w w') (hc:C≤D):RdJm C w' v m:=by
 obtain ⟨vl,e,h1⟩:=h
 exact ⟨vl,e,h1.kept hb hc⟩
theorem RdJm.le {C D:Nat} {w:World} {v:Value} {m:Jm} (h:RdJm C w v m) (hc:C≤D):RdJm D w v m:=by
 obtain ⟨vl,e,h1⟩:=h
 exact ⟨vl,e,h1.le hc⟩
theorem InJm.rd {lo hi:Nat} {w:World} {v:Value} {m:Jm} (h:InJm lo hi w v m):RdJm hi w v m:=by
 obtain ⟨vl,e,h1⟩:=h
 exact ⟨vl,e,InL.rd (L:=layC) h1⟩
theorem InJm.step {a b lo hi:Nat} {w w':World} {v:Value} {m:Jm} (h:InJm a b w v m) (s:Stp lo hi w w') (hd:hi≤a∨b≤lo):InJm a b w' v m:=by
 obtain ⟨vl,e,h1⟩:=h
 exact ⟨vl,e,InRow.step h1 s hd⟩
def capJm (v:Value):Prop:=∃k vl s,v=jrn k vl s∧capV vl
theorem InJm.cap {lo hi:Nat} {w:World} {v:Value} {m:Jm} (h:InJm lo hi w v m):capJm v:=by
 obtain ⟨vl,e,h1⟩:=h
 exact ⟨_,vl,_,e,InRow.cap h1⟩
theorem capJm.one {k s:Int} {o:Option Addr} {n c:Nat} (h:capJm (jrn k (.slice o n c) s)):o=none→c=0:=by
 obtain ⟨k',vl,s',e,h1⟩:=h
 injection e with e
 simp at e
 obtain ⟨_,e5,_⟩:=e
 exact fun h=> h1 n c (by rw [←e5,h])
def fitJm (m:Jm):Prop:=m.l.length≤1048576
theorem cellsLawsJ:Tryz.prog.cellsOf 24=3:=by kernel_rfl
theorem cellsLawsCmdS:Tryz.prog.cellsOf 22=1:=by kernel_rfl
theorem toJournal_sh (v:Value) (m:Jm) (w:World) (hR:RdJm w.heap.size w v m) (hf:fitJm m):
  Calls Tryz.prog 93 #[v] w fun e w'=> ∃v',e=.returned v'∧InJm w.heap.size w'.heap.size w' v' m∧Below w.heap.size w w':=by
 obtain ⟨vl,rfl,o,c,rfl,hr⟩:=hR
 have hB:Below w.heap.size w w:=Below.refl _ _
 go_enter Tryz.func93,Tryz.ntmps93
 go_wp2_with (first|(go_at_call 152;refine (toPoolCmdS_any o c m.l _ ((hr.kept (D:=w.heap.size) (by (repeat (first|with_reducible (first|exact hB|exact Below.refl _ _|refine Below.drew ?_|refine below_drewN ?_ _|refine Below.alloc ?_ ?_ _|refine Below.setCell ?_ ?_ _)|(focus (simp;first|done|omega))|omega))) (Nat.le_refl _)).le (by (try simp) <;> omega)) hf).mono ?_;rintro e w1a ⟨g,rfl,hown,hba⟩;obtain ⟨hca,hfa⟩:=bcell hba;have hz0a:w.heap.size < w1a.heap.size:=(by have hz:=hba.size;(try simp at hz);omega);have hz1a:w.heap.size+1 < w1a.heap.size:=(by have hz:=hba.size;(try simp at hz);omega);have hz2a:w.heap.size+1+1 < w1a.heap.size:=(by have hz:=hba.size;(try simp at hz);omega);have hB:Below w.heap.size w w1a:=(by refine Below.trans ?_ (hba.mono (by have hs:=hB.size;(try simp) <;> omega));(repeat (first|with_reducible (first|exact hB|exact Below.refl _ _|refine Below.drew ?_|refine below_drewN ?_ _|refine Below.alloc ?_ ?_ _|refine Below.setCell ?_ ?_ _)|(focus (simp;first|done|omega))|omega)))))
 have hown':ownC w1a (w.heap.size+1+1+1) (.slice (some ⟨g,0,none⟩) m.l.length m.l.length) m.l:=by simpa using hown
 clear hown hba
 refine bodyPost_ret (v:=jrn m.key (.slice (some ⟨g,0,none⟩) m.l.length m.l.length) m.safe) (by simp [results,Tryz.results93,go_sem,hca,hz0a,hz1a,hz2a]) rfl ⟨_,rfl,⟨_,rfl,InRow.of ?_⟩, ?_⟩
 ·refine own_mono (base:=w.heap.size+1+1+1) ?_ (by omega)
  repeat (refine ownsRow_setCell_below ?_ (by simp <;> omega) _)
  exact hown'
 ·(repeat (first|with_reducible (first|exact hB|exact Below.refl _ _|refine Below.drew ?_|refine below_drewN ?_ _|refine Below.alloc ?_ ?_ _|refine Below.setCell ?_ ?_ _)|(focus (simp;first|done|omega))|omega))
theorem eqJournal_sh (v1 v2:Value) (m:Jm) (w:World) (h1:RdJm w.heap.size w v1 m) (h2:RdJm w.heap.size w v2 m) (hl:m.l.length≤1048576):
  Calls Tryz.prog 105 #[v1,v2] w fun e w'=> e=.returned (.bool true)∧Below w.heap.size w w':=by
 obtain ⟨vl,rfl,o,c,rfl,r1⟩:=h1
 obtain ⟨vl2,rfl,o2,c2,rfl,r2⟩:=h2
 have hB:Below w.heap.size w w:=Below.refl _ _
 go_enter Tryz.func105,Tryz.ntmps105
 go_wp2_with (first|(go_at_call 164;refine (eqPoolCmdS_same o o2 c c2 m.l _ ((r1.kept (D:=w.heap.size) (by (repeat (first|with_reducible (first|exact hB|exact Below.refl _ _|refine Below.drew ?_|refine below_drewN ?_ _|refine Below.alloc ?_ ?_ _|refine Below.setCell ?_ ?_ _)|(focus (simp;first|done|omega))|omega))) (Nat.le_refl _)).le (by (try simp) <;> omega)) ((r2.kept (D:=w.heap.size) (by (repeat (first|with_reducible (first|exact hB|exact Below.refl _ _|refine Below.drew ?_|refine below_drewN ?_ _|refine Below.alloc ?_ ?_ _|refine Below.setCell ?_ ?_ _)|(focus (simp;first|done|omega))|omega))) (Nat.le_refl _)).le (by (try simp) <;> omega)) hl).mono ?_;rintro e w1 ⟨rfl,hb⟩;obtain ⟨hc,hf⟩:=bcell hb;have hz0:w.heap.size < w1.heap.size:=(by have hz:=hb.size;(try simp at hz);omega);have hz1:w.heap.size+1 < w1.heap.size:=(by have hz:=hb.size;(try simp at hz);omega);have hB:Below w.heap.size w w1:=(by refine Below.trans ?_ (hb.mono (by have hs:=hB.size;(try simp) <;> omega));(repeat (first|with_reducible (first|exact hB|exact Below.refl _ _|refine Below.drew ?_|refine below_drewN ?_ _|refine Below.alloc ?_ ?_ _|refine Below.setCell ?_ ?_ _)|(focus (simp;first|done|omega))|omega)))))
 go_ret
 exact ⟨rfl,by (repeat (first|with_reducible (first|exact hB|exact Below.refl _ _|refine Below.drew ?_|refine below_drewN ?_ _|refine Below.alloc ?_ ?_ _|refine Below.setCell ?_ ?_ _)|(focus (simp;first|done|omega))|omega))⟩
end Go.Proofs.YtgplppfbinfelaaGreat
