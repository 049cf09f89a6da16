/- Several texts in one: Bytes, LBytes, Boxes, SPacket, LPacket, SOpens, SNoP. -/
import Derived.RegionTactic
import Derived.Deep.QuietTactic
import Derived.BigQuiet
import Derived.Test.YtgplppfbinfelaaGreatQOldest01
namespace Go.Proofs.YtgplppfbinfelaaGreat
open Go.ChangeShapes Go.WideShapes Go.ChangeAt Go.RowKit Go.Joins
set_option linter.unusedVariables false
set_option linter.unusedSimpArgs false
set_option maxRecDepth 100000
set_option maxHeartbeats 40000000
def Rd (w:World) (o:Option Addr) (l:List Int):Prop:=
 l=[]∨∃b off,o=some ⟨b,off,none⟩∧b < w.heap.size∧∀i,i < l.length→w.cell? ⟨b,off+i,none⟩=some (.int .u8 (l.getD i 0))
def isB (l:List Int):Prop:=∀n∈l,0≤n∧n≤255
theorem Rd.kept {w w':World} {o:Option Addr} {l:List Int} (h:Rd w o l) (hb:Below w.heap.size w w'):Rd w' o l:=by
 rcases h with h|⟨b,off,ho,hlt,hc⟩
 ·exact .inl h
 ·exact .inr ⟨b,off,ho,Nat.lt_of_lt_of_le hlt hb.size,fun i hi=> (hb.cell (p:=⟨b,off+i,none⟩) hlt).trans (hc i hi)⟩
abbrev ownB (w:World) (base:Nat) (v:Value) (l:List Int):Prop:=w.ownsRow base 5 1 v l.length (l.map (Value.int .u8))
theorem ownB.rd {w:World} {base g n cap:Nat} {l:List Int} (h:ownB w base (.slice (some ⟨g,0,none⟩) n cap) l):Rd w (some ⟨g,0,none⟩) l:=by
 have hn:n=l.length:=by
  rcases h.2 with ⟨h',_⟩|⟨g',cap',cur,h',_⟩
  ·simp at h'
  ·simp at h';exact h'.2.1
 subst hn
 refine .inr ⟨g,0,rfl, ?_,fun i hi=> ?_⟩
 ·exact (h.lt g rfl).2
 ·have:=h.cellAt i (by omega)
  rw [Nat.zero_add,this]
  simp [hi]
theorem ownB.open {w:World} {base:Nat} {v:Value} {l:List Int} (h:ownB w base v l):∃o cap,v=.slice o l.length cap∧Rd w o l:=by
 have h0:=h
 rcases h.2 with ⟨h1,h2⟩|⟨g,cap,cur,hv,_⟩
 ·have e:l=[]:=List.eq_nil_of_length_eq_zero h2
  subst e
  exact ⟨none,0,by simpa using h1,.inl rfl⟩
 ·subst hv
  exact ⟨_,cap,rfl,h0.rd⟩
theorem Rd.news {w:World} {ad:Addr} {l:List Int} (h:Rd w (some ad) l):∀j u,(l.map (Value.int .u8))[j]? =some u→w.cell? (ad.add j)=some u:=by
 intro j u hj
 rcases h with h|⟨b,off,ho,_,hc⟩
 ·subst h;simp at hj
 ·cases ho
  have hlt:j < l.length:=by
   rcases Nat.lt_or_ge j l.length with h|h
   ·exact h
   ·simp [List.getElem?_eq_none h] at hj
  have e2:(⟨b,off,none⟩:Addr).add j=⟨b,off+j,none⟩:=by by_cases h:j=0 <;> simp [Addr.add,h]
  rw [e2,hc j hlt]
  simpa [hlt] using hj
theorem Rd.nil {w:World} {l:List Int} (h:Rd w none l):l=[]:=by
 rcases h with h|⟨b,off,ho,_⟩
 ·exact h
 ·cases ho
def RdB (C:Nat) (w:World) (o:Option Addr) (l:List Int):Prop:=
 l=[]∨∃b off,o=some ⟨b,off,none⟩∧b < C∧∀i,i < l.length→w.cell? ⟨b,off+i,none⟩=some (.int .u8 (l.getD i 0))
theorem own_kept {w w':World} {base:Nat} {e:TypeId} {size:Nat} {v:Value} {n:Nat} {xs:List Value} (h:w.ownsRow base e size v n xs) (hb:Below w.heap.size w w'):w'.ownsRow base e size v n xs:=
 h.kept (row:=none) ⟨hb.os,hb.tape,hb.output,hb.size,fun k hk _=> hb.block k hk⟩ (by cases v.ownBlock <;> simp)
theorem open_bytes_cells {H:Type} {enc:TypeId × Value→H} {W:World} {fuel:Nat} {cs:List Value} {x:DataW H × List MemPlace} (h:DataW.trod enc Tryz.prog W 0 (fun _=> true) true fuel 89 cs=some x):
  ∃(o:Option Addr) (cap:Nat) (l:List Int),cs=[.slice o l.length cap]∧l.length≤maxLen∧Rd W o l∧isB l:=by
 rcases open_ints Tryz.underlying89 Tryz.underlying5 (by kernel_rfl) h with ⟨hcs,_⟩|⟨a,len,cap,zs,hcs,_,hl,hm,hz,_,hcell,hwz⟩
 ·exact ⟨none,0,[],hcs,Nat.zero_le _,.inl rfl,fun n hn=> by cases hn⟩
 ·have hz':zs.length=cap:=by simpa using hz
  have htk:(zs.take len).length=len:=by simp;omega
  refine ⟨some a,cap,zs.take len,by rw [htk];exact hcs,by omega, ?_, ?_⟩
  ·by_cases h0:len=0
   ·left;simp [h0]
   ·right
    obtain ⟨b,off,spot⟩:=a
    have hc:=hcell 0 (by omega)
    have hspot:spot=none:=by simpa [Addr.add] using World.cell?_spot hc
    subst hspot
    refine ⟨b,off,rfl, ?_,fun i hi=> ?_⟩
    ·have hc':W.cell? ⟨b,off,none⟩=some (.int .u8 (zs.getD 0 0)):=by simpa [Addr.add] using hc
     rcases Nat.lt_or_ge b W.heap.size with h|h
     ·exact h
     ·simp [World.cell?,Array.getElem?_eq_none h] at hc'
    ·have h1:=hcell i (by omega)
     have e:(zs.take len).getD i 0=zs.getD i 0:=by
      have:i < len:=by omega
      simp [List.getD_eq_getElem?_getD,List.getElem?_take,this]
     have e2:(⟨b,off,none⟩:Addr).add i=⟨b,off+i,none⟩:=by by_cases h:i=0 <;> simp [Addr.add,h]
     rw [e,←e2]
     exact h1
  ·intro n hn
   have:=hwz n (List.mem_of_mem_take hn)
   simpa [Lit.wf,IntKind.min,IntKind.max,IntKind.signed,IntKind.bits] using this
theorem infoU8:(Tryz.prog.info? 5).map (fun i=> (i.zero,i.size,i.bytes))=some (some (.int .u8 0),1,1):=by kernel_rfl
theorem getD_lt (l:List Int) (k:Nat) (h:k < l.length):l.getD k 0=l[k]:=by simp [h]
theorem take_succ_getD (l:List Int) (k:Nat) (h:k < l.length):l.take (k+1)=l.take k++[l.getD k 0]:=by
 rw [List.take_succ_eq_append_getElem h,getD_lt l k h]
def fillTo (l:List Int) (k:Nat):List Int:=l.take k++List.replicate (l.length - k) 0
theorem fillTo_length (l:List Int) (k:Nat) (h:k≤l.length):(fillTo l k).length=l.length:=by simp [fillTo];omega
theorem fillTo_zero (l:List Int):fillTo l 0=List.replicate l.length 0:=by simp [fillTo]
theorem fillTo_all (l:List Int):fillTo l l.length=l:=by simp [fillTo]
theorem fillTo_set (l:List Int) (k:Nat) (h:k < l.length):((fillTo l k).map (Value.int .u8)).set k (.int .u8 (l.getD k 0))=(fillTo l (k+1)).map (Value.int .u8):=by
 rw [←List.map_set]
 congr 1
 have e1:l.length - k=(l.length - (k+1))+1:=by omega
 have e2:(l.take k).length=k:=by simp;omega
 unfold fillTo
 rw [e1,List.replicate_succ,List.set_append_right _ _ (by omega),e2,Nat.sub_self,List.set_cons_zero,List.take_succ_eq_append_getElem h]
 have e3:l.getD k 0=l[k]:=by simp [h]
 rw [e3,List.append_assoc]
 rfl
theorem fill_step {w wr:World} {g:Nat} {l:List Int} {k:Nat} (hk:k < l.length) (hg:w.heap.size≤g) (hown:wr.ownsRow w.heap.size 5 1 (.slice (some ⟨g,0,none⟩) l.length l.length) l.length ((fillTo l k).map (Value.int .u8)))
  (hB:Below w.heap.size w wr):(wr.setCell ⟨g,k,none⟩ (.int .u8 (l.getD k 0))).ownsRow w.heap.size 5 1 (.slice (some ⟨g,0,none⟩) l.length l.length) l.length ((fillTo l (k+1)).map (Value.int .u8))∧
   Below w.heap.size w (wr.setCell ⟨g,k,none⟩ (.int .u8 (l.getD k 0))):=by
 have h:=(hown.stored k (.int .u8 (l.getD k 0))).1
 rw [fillTo_set l k hk] at h
 exact ⟨h,hB.setCell hg _⟩
theorem szByteS_any (o:Option Addr) (len cap:Nat) (n:Int) (w:World) (hl:len≤maxLen) (h0:0≤n) (h1:n≤1048576):
  Calls Tryz.prog 221 #[.slice o len cap,.int .i64 n] w fun e w'=> e=.returned (.int .i64 (if n - len < 0 then -1 else n - len))∧w=w':=by
 unfold maxLen at hl
 by_cases h:n - len < 0
 ·rw [if_pos h]
  go_enter Tryz.func221,Tryz.ntmps221
  go_wp2
  go_ret
  exact ⟨rfl,rfl⟩
 ·rw [if_neg h]
  go_enter Tryz.func221,Tryz.ntmps221
  go_wp2
  go_ret
  exact ⟨rfl,rfl⟩
theorem toByteS_any (o:Option Addr) (cap:Nat) (l:List Int) (w:World) (hR:Rd w o l) (hB8:isB l) (hlen:l.length≤1048576):
  Calls Tryz.prog 223 #[.slice o l.length cap] w fun e w'=> ∃g,e=.returned (.slice (some ⟨g,0,none⟩) l.length l.length)∧ownB w' w.heap.size (.slice (some ⟨g,0,none⟩) l.length l.length) l∧Below w.heap.size w w':=by
 obtain ⟨i0,hi,hz0,hz1,hz2⟩:=info_parts infoU8
 have hB:Below w.heap.size w w:=Below.refl _ _
 go_enter Tryz.func223,Tryz.ntmps223
 go_wp2_with (at_make;refine wpList_make_full _ rfl _ _ 89 rfl w.heap.size 5 i0 (.int .u8 0) 1 Tryz.underlying89 hi hz0 hz1 _ _ _ _ l.length rfl rfl rfl rfl ?b2 ?b3 ?b4 ?_)
 case b2=> rw [hz2];omega
 case b3=> unfold maxLen;omega
 case b4=> simp
 intro w1 hown hgrow
 have hB1:Below w.heap.size w w1:=hB.grown hgrow (Nat.le_refl _) (fun k h=> by cases h)
 have hown1:w1.ownsRow w.heap.size 5 1 (.slice (some ⟨w.heap.size,0,none⟩) l.length l.length) l.length ((fillTo l 0).map (Value.int .u8)):=by
  rw [fillTo_zero];simpa [toList_madeCells_one,Value.cells] using hown
 clear hown hgrow hB
 go_wp2
 go_loopw [4] (fun i wr=> ∃k:Nat,k≤l.length∧i=.int .i64 k∧wr.ownsRow w.heap.size 5 1 (.slice (some ⟨w.heap.size,0,none⟩) l.length l.length) l.length ((fillTo l k).map (Value.int .u8))∧Below w.heap.size w wr)
  (fun i _=> l.length - (intOf i).toNat)
 case atStart=> exact ⟨0,Nat.zero_le _,rfl,hown1,hB1⟩
 case round=>
  obtain ⟨k,hk,rfl,hown,hBr⟩:=hrel
  by_cases hlt:k < l.length
  ·rcases hR with hR|⟨b,off,rfl,hbl,hcell⟩
   ·subst hR;simp at hlt
   have hc:wr.cell? ⟨b,off+k,none⟩=some (.int .u8 (l.getD k 0)):=(hBr.cell (p:=⟨b,off+k,none⟩) hbl).trans (hcell k hlt)
   have hcl:=hown.cellAt k (by omega)
   have hfr:=hown.frozenAt k
   obtain ⟨u,hu⟩:∃u,wr.cell? ⟨w.heap.size,k,none⟩=some u:=⟨_,hcl.trans (List.getElem?_eq_getElem (by simp [fillTo_length l k hk];omega))⟩
   have R:=fill_step (g:=w.heap.size) hlt (Nat.le_refl _) hown hBr
   have HR:=hide R
   clear R hown hBr hcl hB1 hown1
   generalize hx:l.getD k 0=x at *
   go_wp2
   go_roundw
   case rel=> exact ⟨k+1,by omega,by go_num,HR.out.1,HR.out.2⟩
   case measure=> simp [intOf];omega
  ·have e:k=l.length:=by omega
   subst e
   rw [fillTo_all] at hown
   go_wp2
   go_ret
   exact ⟨w.heap.size,rfl,hown,hBr⟩
theorem eqByteS_any (o1 o2:Option Addr) (c1 c2:Nat) (l1 l2:List Int) (w:World) (h1:Rd w o1 l1) (h2:Rd w o2 l2) (hl1:l1.length≤1048576) (hl2:l2.length≤1048576):
  Calls Tryz.prog 232 #[.slice o1 l1.length c1,.slice o2 l2.length c2] w fun e w'=> e=.returned (.bool (decide (l1=l2)))∧Below w.heap.size w w':=by
 by_cases hlen:l1.length=l2.length
 ·have hne:((l1.length:Int) !=(l2.length:Int))=false:=by simp [hlen]
  have HL:=hide hlen
  have hle:l1.length≤l2.length:=by omega
  have hge:l2.length≤l1.length:=by omega
  clear hlen
  go_enter Tryz.func232,Tryz.ntmps232
  go_wp2
  go_loopw [5] (fun i wr=> ∃k:Nat,k≤l1.length∧i=.int .i64 k∧l1.take k=l2.take k∧Below w.heap.size w wr)
   (fun i _=> l1.length - (intOf i).toNat)
  case atStart=> exact ⟨0,Nat.zero_le _,rfl,rfl,Below.refl _ _⟩
  case round=>
   obtain ⟨k,hk,rfl,htk,hBr⟩:=hrel
   have HT:=hide htk
   by_cases hlt:k < l1.length
   ·rcases h1 with h1|⟨b1,off1,rfl,hb1,hcell1⟩
    ·subst h1;simp at hlt
    rcases h2 with h2|⟨b2,off2,rfl,hb2,hcell2⟩
    ·subst h2;simp at hle;simp [hle] at hlt
    have hlt2:k < l2.length:=by omega
    have hc1:wr.cell? ⟨b1,off1+k,none⟩=some (.int .u8 (l1.getD k 0)):=(hBr.cell (p:=⟨b1,off1+k,none⟩) hb1).trans (hcell1 k hlt)
    have hc2:wr.cell? ⟨b2,off2+k,none⟩=some (.int .u8 (l2.getD k 0)):=(hBr.cell (p:=⟨b2,off2+k,none⟩) hb2).trans (hcell2 k (by omega))
    have HB:=hide hBr
    have t1:=hide (take_succ_getD l1 k hlt)
    have t2:=hide (take_succ_getD l2 k hlt2)
    have n12:l1=l2→l1.getD k 0=l2.getD k 0:=fun h=> by rw [h]
    have N12:=hide n12
    clear n12 hcell1 hcell2
    have i1:(k:Int) < (l1.length:Int):=by omega
    have i2:(k:Int) < (l2.length:Int):=by omega
    generalize l1.getD k 0=x at *
    generalize l2.getD k 0=y at *
    clear htk hBr
    by_cases hxy:x=y
    ·have hb:(x !=y)=false:=by simp [hxy]
     have HX:=hide hxy
     clear hxy N12
     go_wp2
     go_quiet (fail)
     go_wp2
     go_roundw
     case rel=>
      refine ⟨k+1,by omega,by go_num, ?_, ?_⟩
      ·rw [t1.out,t2.out,HT.out,HX.out]
      ·exact below_drewN HB.out _
     case measure=> simp [intOf];omega
    ·have hb:(x !=y)=true:=by simp [hxy]
     have HX:Hid (l1≠l2):=fun h=> hxy (N12.out h)
     clear hxy N12 t1 t2
     go_wp2
     go_quiet (fail)
     go_wp2
     go_ret
     exact ⟨ret_bool (decide_eq_false HX.out).symm,below_drewN HB.out _⟩
   ·have e:l1=l2:=by
     have:=htk;rw [List.take_of_length_le (by omega),List.take_of_length_le (by omega)] at this;exact this
    have HE:=hide e
    have HB:=hide hBr
    clear e htk hBr
    go_wp2
    go_ret
    exact ⟨ret_bool (decide_eq_true HE.out).symm,HB.out⟩
 ·have hne:((l1.length:Int) !=(l2.length:Int))=true:=by simp;omega
  have HE:Hid (l1≠l2):=fun h=> hlen (by rw [h])
  go_enter Tryz.func232,Tryz.ntmps232
  go_wp2
  go_ret
  exact ⟨ret_bool (decide_eq_false HE.out).symm,Below.refl _ _⟩
theorem eqByteS_same (o1 o2:Option Addr) (c1 c2:Nat) (l:List Int) (w:World) (h1:Rd w o1 l) (h2:Rd w o2 l) (hl:l.length≤1048576):
  Calls Tryz.prog 232 #[.slice o1 l.length c1,.slice o2 l.length c2] w fun e w'=> e=.returned (.bool true)∧Below w.heap.size w w':=by
 have:=eqByteS_any o1 o2 c1 c2 l l w h1 h2 hl hl
 simpa using this
abbrev pkt (a b f s:Int) (v:Value):Value:=.agg #[.int .i64 a,.int .i64 b,.int .i64 f,.int .i64 s,v]
def boxed (k:Nat) (a b f s:Int) (v:Value) (w:World):Prop:=
 w.cell? ⟨k,0,none⟩=some (.int .i64 a)∧w.cell? ⟨k,1,none⟩=some (.int .i64 b)∧w.cell? ⟨k,2,none⟩=some (.int .i64 f)∧w.cell? ⟨k,3,none⟩=some (.int .i64 s)∧w.cell? ⟨k,4,none⟩=some v
theorem boxed.kept {k:Nat} {a b f s:Int} {v:Value} {w w':World} {B:Nat} (h:boxed k a b f s v w) (hb:Below B w w') (hk:k < B):boxed k a b f s v w':=
 ⟨(hb.cell (p:=⟨k,0,none⟩) hk).trans h.1,(hb.cell (p:=⟨k,1,none⟩) hk).trans h.2.1,(hb.cell (p:=⟨k,2,none⟩) hk).trans h.2.2.1,(hb.cell (p:=⟨k,3,none⟩) hk).trans h.2.2.2.1,(hb.cell (p:=⟨k,4,none⟩) hk).trans h.2.2.2.2⟩
def empty5 (k:Nat) (w:World):Prop:=boxed k 0 0 0 0 (.slice none 0 0) w∧(w.frozen? ⟨k,0,none⟩=false∧w.frozen? ⟨k,1,none⟩=false∧w.frozen? ⟨k,2,none⟩=false∧w.frozen? ⟨k,3,none⟩=false∧w.frozen? ⟨k,4,none⟩=false)
theorem empty5.kept {k:Nat} {w w':World} {B:Nat} (h:empty5 k w) (hb:Below B w w') (hk:k < B):empty5 k w':=
 ⟨h.1.kept hb hk,(hb.frozen (p:=⟨k,0,none⟩) hk).trans h.2.1,(hb.frozen (p:=⟨k,1,none⟩) hk).trans h.2.2.1,(hb.frozen (p:=⟨k,2,none⟩) hk).trans h.2.2.2.1,(hb.frozen (p:=⟨k,3,none⟩) hk).trans h.2.2.2.2.1,(hb.frozen (p:=⟨k,4,none⟩) hk).trans h.2.2.2.2.2⟩
theorem empty5_new (w:World) (e:TypeId):empty5 w.heap.size (w.alloc (.cells #[.int .i64 0,.int .i64 0,.int .i64 0,.int .i64 0,.slice none 0 0] e)):=by
 unfold empty5 boxed;simp
def packetOkB (a b f s:Int) (n:Nat):Bool:=
 flowOkB a b && decide (0≤f) && decide (f < 16) && decide (0≤s) && decide (s < 65536) && decide ((n:Int)≤16) && (bits .and .i64 f 1==0||bits .and .i64 f 12==0)
theorem packetOkB_iff {a b f s:Int} {n:Nat}:packetOkB a b f s n=true↔flowOkB a b=true∧0≤f∧f < 16∧0≤s∧s < 65536∧(n:Int)≤16∧(bits .and .i64 f 1=0∨bits .and .i64 f 12=0):=by
 simp [packetOkB,and_assoc]
theorem packetOkB_yes {a b f s:Int} {n:Nat} (h1:flowOkB a b=true) (h2:0≤f) (h3:f < 16) (h4:0≤s) (h5:s < 65536) (h6:(n:Int)≤16):packetOkB a b f s n=(bits .and .i64 f 1==0||bits .and .i64 f 12==0):=by
 simp [packetOkB,h1,h2,h3,h4,h5,h6]
theorem specPacketOk_any (a b f s:Int) (o:Option Addr) (len cap:Nat) (w:World) (hl:len≤maxLen):
  Calls Tryz.prog 150 #[pkt a b f s (.slice o len cap)] w fun e w'=> e=.returned (.bool (packetOkB a b f s len))∧Below w.heap.size w w':=by
 have hB:Below w.heap.size w w:=Below.refl _ _
 by_cases h1:flowOkB a b=true
 ·by_cases h2:0≤f
  ·by_cases h3:f < 16
   ·by_cases h4:0≤s
    ·by_cases h5:s < 65536
     ·by_cases h6:(len:Int)≤16
      ·by_cases h7:bits .and .i64 f 1=0
       ·have HY:=hide (show true=packetOkB a b f s len by rw [packetOkB_yes h1 h2 h3 h4 h5 h6];simp [h7])
        go_enter Tryz.func150,Tryz.ntmps150
        go_wp2_with (first|(go_at_call 44;refine (specFlowOk_any _ _ _).mono ?_;rintro e w1 ⟨rfl,hb⟩;obtain ⟨hc,hf⟩:=bcell hb;have hz0:w.heap.size < w1.heap.size:=(by have hz:=hb.size;(try simp at hz);omega);have hB:Below w.heap.size w w1:=(by refine Below.trans ?_ (hb.mono (by have hs:=hB.size;(try simp) <;> omega));(repeat (first|with_reducible (first|exact hB|exact Below.refl _ _|refine Below.drew ?_|refine below_drewN ?_ _|refine Below.alloc ?_ ?_ _|refine Below.setCell ?_ ?_ _)|(focus (simp;first|done|omega))|omega)))))
        go_ret
        exact ⟨ret_bool HY.out,by (repeat (first|with_reducible (first|exact hB|exact Below.refl _ _|refine Below.drew ?_|refine below_drewN ?_ _|refine Below.alloc ?_ ?_ _|refine Below.setCell ?_ ?_ _)|(focus (simp;first|done|omega))|omega))⟩
       ·have HY:=hide (packetOkB_yes (a:=a) (b:=b) (f:=f) (s:=s) (n:=len) h1 h2 h3 h4 h5 h6).symm
        go_enter Tryz.func150,Tryz.ntmps150
        go_wp2_with (first|(go_at_call 44;refine (specFlowOk_any _ _ _).mono ?_;rintro e w1 ⟨rfl,hb⟩;obtain ⟨hc,hf⟩:=bcell hb;have hz0:w.heap.size < w1.heap.size:=(by have hz:=hb.size;(try simp at hz);omega);have hB:Below w.heap.size w w1:=(by refine Below.trans ?_ (hb.mono (by have hs:=hB.size;(try simp) <;> omega));(repeat (first|with_reducible (first|exact hB|exact Below.refl _ _|refine Below.drew ?_|refine below_drewN ?_ _|refine Below.alloc ?_ ?_ _|refine Below.setCell ?_ ?_ _)|(focus (simp;first|done|omega))|omega)))))
        go_ret
        exact ⟨ret_bool HY.out,by (repeat (first|with_reducible (first|exact hB|exact Below.refl _ _|refine Below.drew ?_|refine below_drewN ?_ _|refine Below.alloc ?_ ?_ _|refine Below.setCell ?_ ?_ _)|(focus (simp;first|done|omega))|omega))⟩
      ·have HN:=hide (bool_no (packetOkB_iff (a:=a) (b:=b) (f:=f) (s:=s) (n:=len)) (fun q=> h6 q.2.2.2.2.2.1))
       go_enter Tryz.func150,Tryz.ntmps150
       go_wp2_with (first|(go_at_call 44;refine (specFlowOk_any _ _ _).mono ?_;rintro e w1 ⟨rfl,hb⟩;obtain ⟨hc,hf⟩:=bcell hb;have hz0:w.heap.size < w1.heap.size:=(by have hz:=hb.size;(try simp at hz);omega);have hB:Below w.heap.size w w1:=(by refine Below.trans ?_ (hb.mono (by have hs:=hB.size;(try simp) <;> omega));(repeat (first|with_reducible (first|exact hB|exact Below.refl _ _|refine Below.drew ?_|refine below_drewN ?_ _|refine Below.alloc ?_ ?_ _|refine Below.setCell ?_ ?_ _)|(focus (simp;first|done|omega))|omega)))))
       go_ret
       exact ⟨ret_bool HN.out,by (repeat (first|with_reducible (first|exact hB|exact Below.refl _ _|refine Below.drew ?_|refine below_drewN ?_ _|refine Below.alloc ?_ ?_ _|refine Below.setCell ?_ ?_ _)|(focus (simp;first|done|omega))|omega))⟩
     ·have HN:=hide (bool_no (packetOkB_iff (a:=a) (b:=b) (f:=f) (s:=s) (n:=len)) (fun q=> h5 q.2.2.2.2.1))
      go_enter Tryz.func150,Tryz.ntmps150
      go_wp2_with (first|(go_at_call 44;refine (specFlowOk_any _ _ _).mono ?_;rintro e w1 ⟨rfl,hb⟩;obtain ⟨hc,hf⟩:=bcell hb;have hz0:w.heap.size < w1.heap.size:=(by have hz:=hb.size;(try simp at hz);omega);have hB:Below w.heap.size w w1:=(by refine Below.trans ?_ (hb.mono (by have hs:=hB.size;(try simp) <;> omega));(repeat (first|with_reducible (first|exact hB|exact Below.refl _ _|refine Below.drew ?_|refine below_drewN ?_ _|refine Below.alloc ?_ ?_ _|refine Below.setCell ?_ ?_ _)|(focus (simp;first|done|omega))|omega)))))
      go_ret
      exact ⟨ret_bool HN.out,by (repeat (first|with_reducible (first|exact hB|exact Below.refl _ _|refine Below.drew ?_|refine below_drewN ?_ _|refine Below.alloc ?_ ?_ _|refine Below.setCell ?_ ?_ _)|(focus (simp;first|done|omega))|omega))⟩
    ·have HN:=hide (bool_no (packetOkB_iff (a:=a) (b:=b) (f:=f) (s:=s) (n:=len)) (fun q=> h4 q.2.2.2.1))
     go_enter Tryz.func150,Tryz.ntmps150
     go_wp2_with (first|(go_at_call 44;refine (specFlowOk_any _ _ _).mono ?_;rintro e w1 ⟨rfl,hb⟩;obtain ⟨hc,hf⟩:=bcell hb;have hz0:w.heap.size < w1.heap.size:=(by have hz:=hb.size;(try simp at hz);omega);have hB:Below w.heap.size w w1:=(by refine Below.trans ?_ (hb.mono (by have hs:=hB.size;(try simp) <;> omega));(repeat (first|with_reducible (first|exact hB|exact Below.refl _ _|refine Below.drew ?_|refine below_drewN ?_ _|refine Below.alloc ?_ ?_ _|refine Below.setCell ?_ ?_ _)|(focus (simp;first|done|omega))|omega)))))
     go_ret
     exact ⟨ret_bool HN.out,by (repeat (first|with_reducible (first|exact hB|exact Below.refl _ _|refine Below.drew ?_|refine below_drewN ?_ _|refine Below.alloc ?_ ?_ _|refine Below.setCell ?_ ?_ _)|(focus (simp;first|done|omega))|omega))⟩
   ·have HN:=hide (bool_no (packetOkB_iff (a:=a) (b:=b) (f:=f) (s:=s) (n:=len)) (fun q=> h3 q.2.2.1))
    go_enter Tryz.func150,Tryz.ntmps150
    go_wp2_with (first|(go_at_call 44;refine (specFlowOk_any _ _ _).mono ?_;rintro e w1 ⟨rfl,hb⟩;obtain ⟨hc,hf⟩:=bcell hb;have hz0:w.heap.size < w1.heap.size:=(by have hz:=hb.size;(try simp at hz);omega);have hB:Below w.heap.size w w1:=(by refine Below.trans ?_ (hb.mono (by have hs:=hB.size;(try simp) <;> omega));(repeat (first|with_reducible (first|exact hB|exact Below.refl _ _|refine Below.drew ?_|refine below_drewN ?_ _|refine Below.alloc ?_ ?_ _|refine Below.setCell ?_ ?_ _)|(focus (simp;first|done|omega))|omega)))))
    go_ret
    exact ⟨ret_bool HN.out,by (repeat (first|with_reducible (first|exact hB|exact Below.refl _ _|refine Below.drew ?_|refine below_drewN ?_ _|refine Below.alloc ?_ ?_ _|refine Below.setCell ?_ ?_ _)|(focus (simp;first|done|omega))|omega))⟩
  ·have HN:=hide (bool_no (packetOkB_iff (a:=a) (b:=b) (f:=f) (s:=s) (n:=len)) (fun q=> h2 q.2.1))
   go_enter Tryz.func150,Tryz.ntmps150
   go_wp2_with (first|(go_at_call 44;refine (specFlowOk_any _ _ _).mono ?_;rintro e w1 ⟨rfl,hb⟩;obtain ⟨hc,hf⟩:=bcell hb;have hz0:w.heap.size < w1.heap.size:=(by have hz:=hb.size;(try simp at hz);omega);have hB:Below w.heap.size w w1:=(by refine Below.trans ?_ (hb.mono (by have hs:=hB.size;(try simp) <;> omega));(repeat (first|with_reducible (first|exact hB|exact Below.refl _ _|refine Below.drew ?_|refine below_drewN ?_ _|refine Below.alloc ?_ ?_ _|refine Below.setCell ?_ ?_ _)|(focus (simp;first|done|omega))|omega)))))
   go_ret
   exact ⟨ret_bool HN.out,by (repeat (first|with_reducible (first|exact hB|exact Below.refl _ _|refine Below.drew ?_|refine below_drewN ?_ _|refine Below.alloc ?_ ?_ _|refine Below.setCell ?_ ?_ _)|(focus (simp;first|done|omega))|omega))⟩
 ·have HN:=hide (bool_no (packetOkB_iff (a:=a) (b:=b) (f:=f) (s:=s) (n:=len)) (fun q=> h1 q.1))
  go_enter Tryz.func150,Tryz.ntmps150
  go_wp2_with (first|(go_at_call 44;refine (specFlowOk_any _ _ _).mono ?_;rintro e w1 ⟨rfl,hb⟩;obtain ⟨hc,hf⟩:=bcell hb;have hz0:w.heap.size < w1.heap.size:=(by have hz:=hb.size;(try simp at hz);omega);have hB:Below w.heap.size w w1:=(by refine Below.trans ?_ (hb.mono (by have hs:=hB.size;(try simp) <;> omega));(repeat (first|with_reducible (first|exact hB|exact Below.refl _ _|refine Below.drew ?_|refine below_drewN ?_ _|refine Below.alloc ?_ ?_ _|refine Below.setCell ?_ ?_ _)|(focus (simp;first|done|omega))|omega)))))
  go_ret
  exact ⟨ret_bool HN.out,by (repeat (first|with_reducible (first|exact hB|exact Below.refl _ _|refine Below.drew ?_|refine below_drewN ?_ _|refine Below.alloc ?_ ?_ _|refine Below.setCell ?_ ?_ _)|(focus (simp;first|done|omega))|omega))⟩
def flagOkB (f:Int):Bool:=decide (0≤f) && decide (f < 16) && (bits .and .i64 f 1==0||bits .and .i64 f 12==0)
theorem flagOkB_iff {f:Int}:flagOkB f=true↔0≤f∧f < 16∧(bits .and .i64 f 1=0∨bits .and .i64 f 12=0):=by simp [flagOkB,and_assoc]
theorem flagOkB_yes {f:Int} (h2:0≤f) (h3:f < 16):flagOkB f=(bits .and .i64 f 1==0||bits .and .i64 f 12==0):=by simp [flagOkB,h2,h3]
theorem packetOkB_parts {a b f s:Int} {n:Nat}:packetOkB a b f s n=true↔(flowOkB a b=true∧flagOkB f=true∧0≤s∧s≤65535∧(n:Int)≤16∧True):=by
 rw [packetOkB_iff,flagOkB_iff]
 constructor
 ·rintro ⟨q1,q2,q3,q4,q5,q6,q7⟩;exact ⟨q1,⟨q2,q3,q7⟩,q4,by omega,q6,trivial⟩
 ·rintro ⟨q1,⟨q2,q3,q7⟩,q4,q5,q6,_⟩;exact ⟨q1,q2,q3,q4,by omega,q6,q7⟩
theorem packetOkB_last {a b f s:Int} {n:Nat} (h1:flowOkB a b=true) (h2:flagOkB f=true) (h4:0≤s) (h5:s≤65535):decide ((n:Int)≤16)=packetOkB a b f s n:=by
 rw [Bool.eq_iff_iff,packetOkB_parts];simp [h1,h2,h4,h5]
theorem flagOk_any (f:Int) (w:World):Calls Tryz.prog 219 #[.int .i64 f] w fun e w'=> e=.returned (.bool (flagOkB f))∧w=w':=by
 by_cases h2:0≤f
 ·by_cases h3:f < 16
  ·by_cases h7:bits .and .i64 f 1=0
   ·go_enter Tryz.func219,Tryz.ntmps219
    go_wp2
    go_ret
    exact ⟨ret_bool (by rw [flagOkB_yes h2 h3];simp [h7]),rfl⟩
   ·go_enter Tryz.func219,Tryz.ntmps219
    go_wp2
    go_ret
    exact ⟨ret_bool (by rw [flagOkB_yes h2 h3];simp [h7,bne]),rfl⟩
  ·have HN:=hide (bool_no (flagOkB_iff (f:=f)) (fun q=> h3 q.2.1))
   go_enter Tryz.func219,Tryz.ntmps219
   go_wp2
   go_ret
   exact ⟨ret_bool HN.out,rfl⟩
 ·have HN:=hide (bool_no (flagOkB_iff (f:=f)) (fun q=> h2 q.1))
  go_enter Tryz.func219,Tryz.ntmps219
  go_wp2
  go_ret
  exact ⟨ret_bool HN.out,rfl⟩
theorem implPacketOk_any (a b f s:Int) (o:Option Addr) (len cap:Nat) (w:World) (hl:len≤maxLen):
  Calls Tryz.prog 185 #[pkt a b f s (.slice o len cap)] w fun e w'=> e=.returned (.bool (packetOkB a b f s len))∧Below w.heap.size w w':=by
 have hB:Below w.heap.size w w:=Below.refl _ _
 by_cases h1:flowOkB a b=true
 ·by_cases h2:flagOkB f=true
  ·by_cases h4:0≤s
   ·by_cases h5:s≤65535
    ·have HY:=hide (packetOkB_last (a:=a) (b:=b) (f:=f) (s:=s) (n:=len) h1 h2 h4 h5)
     go_enter Tryz.func185,Tryz.ntmps185
     go_wp2_with (first|(go_at_call 77;refine (implFlowOk_any _ _ _).mono ?_;rintro e w1 ⟨rfl,hb⟩;obtain ⟨hc,hf⟩:=bcell hb;have hz0:w.heap.size < w1.heap.size:=(by have hz:=hb.size;(try simp at hz);omega);have hB:Below w.heap.size w w1:=(by refine Below.trans ?_ (hb.mono (by have hs:=hB.size;(try simp) <;> omega));(repeat (first|with_reducible (first|exact hB|exact Below.refl _ _|refine Below.drew ?_|refine below_drewN ?_ _|refine Below.alloc ?_ ?_ _|refine Below.setCell ?_ ?_ _)|(focus (simp;first|done|omega))|omega))))|(go_at_call 219;refine (flagOk_any _ _).mono ?_;rintro e w2 ⟨rfl,rfl⟩)|go_in)
     go_ret
     exact ⟨ret_bool HY.out,by (repeat (first|with_reducible (first|exact hB|exact Below.refl _ _|refine Below.drew ?_|refine below_drewN ?_ _|refine Below.alloc ?_ ?_ _|refine Below.setCell ?_ ?_ _)|(focus (simp;first|done|omega))|omega))⟩
    ·have HN:=hide (bool_no (packetOkB_parts (a:=a) (b:=b) (f:=f) (s:=s) (n:=len)) (fun q=> h5 q.2.2.2.1))
     go_enter Tryz.func185,Tryz.ntmps185
     go_wp2_with (first|(go_at_call 77;refine (implFlowOk_any _ _ _).mono ?_;rintro e w1 ⟨rfl,hb⟩;obtain ⟨hc,hf⟩:=bcell hb;have hz0:w.heap.size < w1.heap.size:=(by have hz:=hb.size;(try simp at hz);omega);have hB:Below w.heap.size w w1:=(by refine Below.trans ?_ (hb.mono (by have hs:=hB.size;(try simp) <;> omega));(repeat (first|with_reducible (first|exact hB|exact Below.refl _ _|refine Below.drew ?_|refine below_drewN ?_ _|refine Below.alloc ?_ ?_ _|refine Below.setCell ?_ ?_ _)|(focus (simp;first|done|omega))|omega))))|(go_at_call 219;refine (flagOk_any _ _).mono ?_;rintro e w2 ⟨rfl,rfl⟩)|go_in)
     go_ret
     exact ⟨ret_bool HN.out,by (repeat (first|with_reducible (first|exact hB|exact Below.refl _ _|refine Below.drew ?_|refine below_drewN ?_ _|refine Below.alloc ?_ ?_ _|refine Below.setCell ?_ ?_ _)|(focus (simp;first|done|omega))|omega))⟩
   ·have HN:=hide (bool_no (packetOkB_parts (a:=a) (b:=b) (f:=f) (s:=s) (n:=len)) (fun q=> h4 q.2.2.1))
    go_enter Tryz.func185,Tryz.ntmps185
    go_wp2_with (first|(go_at_call 77;refine (implFlowOk_any _ _ _).mono ?_;rintro e w1 ⟨rfl,hb⟩;obtain ⟨hc,hf⟩:=bcell hb;have hz0:w.heap.size < w1.heap.size:=(by have hz:=hb.size;(try simp at hz);omega);have hB:Below w.heap.size w w1:=(by refine Below.trans ?_ (hb.mono (by have hs:=hB.size;(try simp) <;> omega));(repeat (first|with_reducible (first|exact hB|exact Below.refl _ _|refine Below.drew ?_|refine below_drewN ?_ _|refine Below.alloc ?_ ?_ _|refine Below.setCell ?_ ?_ _)|(focus (simp;first|done|omega))|omega))))|(go_at_call 219;refine (flagOk_any _ _).mono ?_;rintro e w2 ⟨rfl,rfl⟩)|go_in)
    go_ret
    exact ⟨ret_bool HN.out,by (repeat (first|with_reducible (first|exact hB|exact Below.refl _ _|refine Below.drew ?_|refine below_drewN ?_ _|refine Below.alloc ?_ ?_ _|refine Below.setCell ?_ ?_ _)|(focus (simp;first|done|omega))|omega))⟩
  ·have HN:=hide (bool_no (packetOkB_parts (a:=a) (b:=b) (f:=f) (s:=s) (n:=len)) (fun q=> h2 q.2.1))
   go_enter Tryz.func185,Tryz.ntmps185
   go_wp2_with (first|(go_at_call 77;refine (implFlowOk_any _ _ _).mono ?_;rintro e w1 ⟨rfl,hb⟩;obtain ⟨hc,hf⟩:=bcell hb;have hz0:w.heap.size < w1.heap.size:=(by have hz:=hb.size;(try simp at hz);omega);have hB:Below w.heap.size w w1:=(by refine Below.trans ?_ (hb.mono (by have hs:=hB.size;(try simp) <;> omega));(repeat (first|with_reducible (first|exact hB|exact Below.refl _ _|refine Below.drew ?_|refine below_drewN ?_ _|refine Below.alloc ?_ ?_ _|refine Below.setCell ?_ ?_ _)|(focus (simp;first|done|omega))|omega))))|(go_at_call 219;refine (flagOk_any _ _).mono ?_;rintro e w2 ⟨rfl,rfl⟩)|go_in)
   go_ret
   exact ⟨ret_bool HN.out,by (repeat (first|with_reducible (first|exact hB|exact Below.refl _ _|refine Below.drew ?_|refine below_drewN ?_ _|refine Below.alloc ?_ ?_ _|refine Below.setCell ?_ ?_ _)|(focus (simp;first|done|omega))|omega))⟩
 ·have HN:=hide (bool_no (packetOkB_parts (a:=a) (b:=b) (f:=f) (s:=s) (n:=len)) (fun q=> h1 q.1))
  go_enter Tryz.func185,Tryz.ntmps185
  go_wp2_with (first|(go_at_call 77;refine (implFlowOk_any _ _ _).mono ?_;rintro e w1 ⟨rfl,hb⟩;obtain ⟨hc,hf⟩:=bcell hb;have hz0:w.heap.size < w1.heap.size:=(by have hz:=hb.size;(try simp at hz);omega);have hB:Below w.heap.size w w1:=(by refine Below.trans ?_ (hb.mono (by have hs:=hB.size;(try simp) <;> omega));(repeat (first|with_reducible (first|exact hB|exact Below.refl _ _|refine Below.drew ?_|refine below_drewN ?_ _|refine Below.alloc ?_ ?_ _|refine Below.setCell ?_ ?_ _)|(focus (simp;first|done|omega))|omega))))|(go_at_call 219;refine (flagOk_any _ _).mono ?_;rintro e w2 ⟨rfl,rfl⟩)|go_in)
  go_ret
  exact ⟨ret_bool HN.out,by (repeat (first|with_reducible (first|exact hB|exact Below.refl _ _|refine Below.drew ?_|refine below_drewN ?_ _|refine Below.alloc ?_ ?_ _|refine Below.setCell ?_ ?_ _)|(focus (simp;first|done|omega))|omega))⟩
theorem cellsLawsPacket:Tryz.prog.cellsOf 154=5:=by kernel_rfl
theorem cellsInt:Tryz.prog.cellsOf 3=1:=by kernel_rfl
theorem cellsBytes:Tryz.prog.cellsOf 89=1:=by kernel_rfl
theorem open_packet_cells {H:Type} {enc:TypeId × Value→H} {W:World} {fuel:Nat} {c0 c1 c2 c3 c4:Value} {x:DataW H × List MemPlace}
  (h:DataW.trod enc Tryz.prog W 0 (fun _=> true) true fuel 154 [c0,c1,c2,c3,c4]=some x):
  ∃(a b f s:Int) (o:Option Addr) (cap:Nat) (l:List Int),[c0,c1,c2,c3,c4]=[.int .i64 a,.int .i64 b,.int .i64 f,.int .i64 s,.slice o l.length cap]∧l.length≤maxLen∧Rd W o l∧isB l:=by
 obtain ⟨y0,y1,y2,y3,n,_,_,h0,h1,h2,h3⟩:=trod_struct4 Tryz.underlying154 h
 simp [cellsInt,cellsBytes,cellsLawsFlow] at h0 h1 h2 h3
 obtain ⟨z0,z1,n',_,_,g0,g1⟩:=trod_struct2 Tryz.underlying73 h0
 simp [cellsInt] at g0 g1
 obtain ⟨a,e0,_,_⟩:=DataW.trod_int Tryz.underlying3 g0
 obtain ⟨b,e1,_,_⟩:=DataW.trod_int Tryz.underlying3 g1
 obtain ⟨f,e2,_,_⟩:=DataW.trod_int Tryz.underlying3 h1
 obtain ⟨s,e3,_,_⟩:=DataW.trod_int Tryz.underlying3 h2
 obtain ⟨o,cap,l,e4,r⟩:=open_bytes_cells h3
 simp at e0 e1 e2 e3 e4
 subst e0 e1 e2 e3 e4
 exact ⟨a,b,f,s,o,cap,l,rfl,r⟩
theorem szPacket_any (a b f s:Int) (o:Option Addr) (len cap:Nat) (n:Int) (w:World) (hl:len≤maxLen) (h0:0≤n) (h1:n≤1048576):
  Calls Tryz.prog 188 #[pkt a b f s (.slice o len cap),.int .i64 n] w fun e w'=> e=.returned (.int .i64 (if n - len < 0 then -1 else n - len))∧Below w.heap.size w w':=by
 have hB:Below w.heap.size w w:=Below.refl _ _
 by_cases h:n - len < 0
 ·have hs:=szByteS_any o len cap n
  rw [if_pos h] at *
  go_enter Tryz.func188,Tryz.ntmps188
  go_wp2_with (go_at_call 221;refine (hs _ hl h0 h1).mono ?_;rintro e w1 ⟨rfl,rfl⟩)
  go_ret
  exact ⟨rfl,by (repeat (first|with_reducible (first|exact hB|exact Below.refl _ _|refine Below.drew ?_|refine below_drewN ?_ _|refine Below.alloc ?_ ?_ _|refine Below.setCell ?_ ?_ _)|(focus (simp;first|done|omega))|omega))⟩
 ·have hs:=szByteS_any o len cap n
  rw [if_neg h] at *
  go_enter Tryz.func188,Tryz.ntmps188
  go_wp2_with (go_at_call 221;refine (hs _ hl h0 h1).mono ?_;rintro e w1 ⟨rfl,rfl⟩)
  go_ret
  exact ⟨rfl,by (repeat (first|with_reducible (first|exact hB|exact Below.refl _ _|refine Below.drew ?_|refine below_drewN ?_ _|refine Below.alloc ?_ ?_ _|refine Below.setCell ?_ ?_ _)|(focus (simp;first|done|omega))|omega))⟩
theorem toPacket_any (a b f s:Int) (o:Option Addr) (cap:Nat) (l:List Int) (w:World) (hR:Rd w o l) (hB8:isB l) (hlen:l.length≤1048576):
  Calls Tryz.prog 197 #[pkt a b f s (.slice o l.length cap)] w fun e w'=> ∃g,e=.returned (pkt a b f s (.slice (some ⟨g,0,none⟩) l.length l.length))∧ownB w' w.heap.size (.slice (some ⟨g,0,none⟩) l.length l.length) l∧Below w.heap.size w w':=by
 have hB:Below w.heap.size w w:=Below.refl _ _
 go_enter Tryz.func197,Tryz.ntmps197
 go_wp2_with (first|(go_at_call 30;refine (toFlow_any _ _ _).mono ?_;rintro e w1a ⟨rfl,hba⟩;obtain ⟨hca,hfa⟩:=bcell hba;have hz0a:w.heap.size < w1a.heap.size:=(by have hz:=hba.size;(try simp at hz);omega);have hz1a:w.heap.size+1 < w1a.heap.size:=(by have hz:=hba.size;(try simp at hz);omega);have hz2a:w.heap.size+1+1 < w1a.heap.size:=(by have hz:=hba.size;(try simp at hz);omega);have hB:Below w.heap.size w w1a:=(by refine Below.trans ?_ (hba.mono (by have hs:=hB.size;(try simp) <;> omega));(repeat (first|with_reducible (first|exact hB|exact Below.refl _ _|refine Below.drew ?_|refine below_drewN ?_ _|refine Below.alloc ?_ ?_ _|refine Below.setCell ?_ ?_ _)|(focus (simp;first|done|omega))|omega))))|(go_at_call 223;refine (toByteS_any o cap l _ (hR.kept (by (repeat (first|with_reducible (first|exact hB|exact Below.refl _ _|refine Below.drew ?_|refine below_drewN ?_ _|refine Below.alloc ?_ ?_ _|refine Below.setCell ?_ ?_ _)|(focus (simp;first|done|omega))|omega)))) hB8 hlen).mono ?_;rintro e w1b ⟨g,rfl,hown,hbb⟩;obtain ⟨hcb,hfb⟩:=bcell hbb;have hz0b:w.heap.size < w1b.heap.size:=(by have hz:=hbb.size;(try simp at hz);omega);have hz1b:w.heap.size+1 < w1b.heap.size:=(by have hz:=hbb.size;(try simp at hz);omega);have hz2b:w.heap.size+1+1 < w1b.heap.size:=(by have hz:=hbb.size;(try simp at hz);omega);have hB:Below w.heap.size w w1b:=(by refine Below.trans ?_ (hbb.mono (by have hs:=hB.size;(try simp) <;> omega));(repeat (first|with_reducible (first|exact hB|exact Below.refl _ _|refine Below.drew ?_|refine below_drewN ?_ _|refine Below.alloc ?_ ?_ _|refine Below.setCell ?_ ?_ _)|(focus (simp;first|done|omega))|omega)))))
 have hown':ownB w1b w1a.heap.size (.slice (some ⟨g,0,none⟩) l.length l.length) l:=by simpa using hown
 clear hown hbb hba
 refine bodyPost_ret (v:=pkt a b f s (.slice (some ⟨g,0,none⟩) l.length l.length)) (by simp [results,Tryz.results197,go_sem,hcb,hca,hz0a,hz1a,hz2a,hz0b,hz1b,hz2b]) rfl ⟨g,rfl, ?_, ?_⟩
 ·refine own_mono (base:=w1a.heap.size) ?_ (Nat.le_of_lt hz0a)
  repeat (refine ownsRow_setCell_below ?_ (by simp <;> omega) _)
  exact hown'
 ·(repeat (first|with_reducible (first|exact hB|exact Below.refl _ _|refine Below.drew ?_|refine below_drewN ?_ _|refine Below.alloc ?_ ?_ _|refine Below.setCell ?_ ?_ _)|(focus (simp;first|done|omega))|omega))
theorem eqPacket_same (a b f s:Int) (o1 o2:Option Addr) (c1 c2:Nat) (l:List Int) (w:World) (h1:Rd w o1 l) (h2:Rd w o2 l) (hl:l.length≤1048576):
  Calls Tryz.prog 210 #[pkt a b f s (.slice o1 l.length c1),pkt a b f s (.slice o2 l.length c2)] w fun e w'=> e=.returned (.bool true)∧Below w.heap.size w w':=by
 have hB:Below w.heap.size w w:=Below.refl _ _
 go_enter Tryz.func210,Tryz.ntmps210
 go_wp2_with (first|(go_at_call 169;refine (eqFlow_same _ _ _).mono ?_;rintro e w1 ⟨rfl,hb⟩;obtain ⟨hc,hf⟩:=bcell hb;have hz0:w.heap.size < w1.heap.size:=(by have hz:=hb.size;(try simp at hz);omega);have hz1:w.heap.size+1 < w1.heap.size:=(by have hz:=hb.size;(try simp at hz);omega);have hB:Below w.heap.size w w1:=(by refine Below.trans ?_ (hb.mono (by have hs:=hB.size;(try simp) <;> omega));(repeat (first|with_reducible (first|exact hB|exact Below.refl _ _|refine Below.drew ?_|refine below_drewN ?_ _|refine Below.alloc ?_ ?_ _|refine Below.setCell ?_ ?_ _)|(focus (simp;first|done|omega))|omega))))|(go_at_call 232;refine (eqByteS_same o1 o2 c1 c2 l _ (h1.kept (by (repeat (first|with_reducible (first|exact hB|exact Below.refl _ _|refine Below.drew ?_|refine below_drewN ?_ _|refine Below.alloc ?_ ?_ _|refine Below.setCell ?_ ?_ _)|(focus (simp;first|done|omega))|omega)))) (h2.kept (by (repeat (first|with_reducible (first|exact hB|exact Below.refl _ _|refine Below.drew ?_|refine below_drewN ?_ _|refine Below.alloc ?_ ?_ _|refine Below.setCell ?_ ?_ _)|(focus (simp;first|done|omega))|omega)))) hl).mono ?_;rintro e w1 ⟨rfl,hb⟩;obtain ⟨hc,hf⟩:=bcell hb;have hz0:w.heap.size < w1.heap.size:=(by have hz:=hb.size;(try simp at hz);omega);have hz1:w.heap.size+1 < w1.heap.size:=(by have hz:=hb.size;(try simp at hz);omega);have hB:Below w.heap.size w w1:=(by refine Below.trans ?_ (hb.mono (by have hs:=hB.size;(try simp) <;> omega));(repeat (first|with_reducible (first|exact hB|exact Below.refl _ _|refine Below.drew ?_|refine below_drewN ?_ _|refine Below.alloc ?_ ?_ _|refine Below.setCell ?_ ?_ _)|(focus (simp;first|done|omega))|omega)))))
 go_ret
 exact ⟨rfl,by (repeat (first|with_reducible (first|exact hB|exact Below.refl _ _|refine Below.drew ?_|refine below_drewN ?_ _|refine Below.alloc ?_ ?_ _|refine Below.setCell ?_ ?_ _)|(focus (simp;first|done|omega))|omega))⟩
def opensB (a b f s:Int) (n:Nat):Bool:=packetOkB a b f s n && (bits .and .i64 f 3==1)
theorem opens_bits (f:Int) (h0:0≤f) (h1:f < 16):((bits .and .i64 f 1 !=0) && !(bits .and .i64 f 2 !=0))=(bits .and .i64 f 3==1):=by
 have h:f=0∨f=1∨f=2∨f=3∨f=4∨f=5∨f=6∨f=7∨f=8∨f=9∨f=10∨f=11∨f=12∨f=13∨f=14∨f=15:=by omega
 rcases h with h|h|h|h|h|h|h|h|h|h|h|h|h|h|h|h <;> subst h <;> decide+kernel
theorem opensB_no {a b f s:Int} {n:Nat} (h:¬packetOkB a b f s n=true):false=opensB a b f s n:=by simp [opensB,h]
theorem opensB_yes {a b f s:Int} {n:Nat} (h:packetOkB a b f s n=true):(bits .and .i64 f 3==1)=opensB a b f s n:=by simp [opensB,h]
theorem opensB_no1 {a b f s:Int} {n:Nat} (h:packetOkB a b f s n=true) (h1:¬(bits .and .i64 f 1 !=0)=true):false=opensB a b f s n:=by
 have q:=packetOkB_iff.1 h
 rw [←opensB_yes h,←opens_bits f q.2.1 q.2.2.1]
 simp [Bool.eq_false_iff.2 h1]
theorem opensB_yes1 {a b f s:Int} {n:Nat} (h:packetOkB a b f s n=true) (h1:(bits .and .i64 f 1 !=0)=true):(!(bits .and .i64 f 2 !=0))=opensB a b f s n:=by
 have q:=packetOkB_iff.1 h
 rw [←opensB_yes h,←opens_bits f q.2.1 q.2.2.1,h1,Bool.true_and]
theorem implOpens_any (a b f s:Int) (o:Option Addr) (len cap:Nat) (w:World) (hl:len≤maxLen):
  Calls Tryz.prog 138 #[pkt a b f s (.slice o len cap)] w fun e w'=> e=.returned (.bool (opensB a b f s len))∧Below w.heap.size w w':=by
 have hB:Below w.heap.size w w:=Below.refl _ _
 by_cases h:packetOkB a b f s len=true
 ·by_cases h1:(bits .and .i64 f 1 !=0)=true
  ·have HY:=hide (opensB_yes1 h h1)
   go_enter Tryz.func138,Tryz.ntmps138
   go_wp2_with (first|(go_at_call 185;refine (implPacketOk_any a b f s o len cap _ hl).mono ?_;rintro e w1 ⟨rfl,hb⟩;obtain ⟨hc,hf⟩:=bcell hb;have hz0:w.heap.size < w1.heap.size:=(by have hz:=hb.size;(try simp at hz);omega);have hB:Below w.heap.size w w1:=(by refine Below.trans ?_ (hb.mono (by have hs:=hB.size;(try simp) <;> omega));(repeat (first|with_reducible (first|exact hB|exact Below.refl _ _|refine Below.drew ?_|refine below_drewN ?_ _|refine Below.alloc ?_ ?_ _|refine Below.setCell ?_ ?_ _)|(focus (simp;first|done|omega))|omega))))|go_in)
   go_ret
   exact ⟨ret_bool HY.out,by (repeat (first|with_reducible (first|exact hB|exact Below.refl _ _|refine Below.drew ?_|refine below_drewN ?_ _|refine Below.alloc ?_ ?_ _|refine Below.setCell ?_ ?_ _)|(focus (simp;first|done|omega))|omega))⟩
  ·have HN:=hide (opensB_no1 h h1)
   have h1':=Bool.eq_false_iff.2 h1
   go_enter Tryz.func138,Tryz.ntmps138
   go_wp2_with (first|(go_at_call 185;refine (implPacketOk_any a b f s o len cap _ hl).mono ?_;rintro e w1 ⟨rfl,hb⟩;obtain ⟨hc,hf⟩:=bcell hb;have hz0:w.heap.size < w1.heap.size:=(by have hz:=hb.size;(try simp at hz);omega);have hB:Below w.heap.size w w1:=(by refine Below.trans ?_ (hb.mono (by have hs:=hB.size;(try simp) <;> omega));(repeat (first|with_reducible (first|exact hB|exact Below.refl _ _|refine Below.drew ?_|refine below_drewN ?_ _|refine Below.alloc ?_ ?_ _|refine Below.setCell ?_ ?_ _)|(focus (simp;first|done|omega))|omega))))|go_in)
   go_ret
   exact ⟨ret_bool HN.out,by (repeat (first|with_reducible (first|exact hB|exact Below.refl _ _|refine Below.drew ?_|refine below_drewN ?_ _|refine Below.alloc ?_ ?_ _|refine Below.setCell ?_ ?_ _)|(focus (simp;first|done|omega))|omega))⟩
 ·have HN:=hide (opensB_no h)
  go_enter Tryz.func138,Tryz.ntmps138
  go_wp2_with (first|(go_at_call 185;refine (implPacketOk_any a b f s o len cap _ hl).mono ?_;rintro e w1 ⟨rfl,hb⟩;obtain ⟨hc,hf⟩:=bcell hb;have hz0:w.heap.size < w1.heap.size:=(by have hz:=hb.size;(try simp at hz);omega);have hB:Below w.heap.size w w1:=(by refine Below.trans ?_ (hb.mono (by have hs:=hB.size;(try simp) <;> omega));(repeat (first|with_reducible (first|exact hB|exact Below.refl _ _|refine Below.drew ?_|refine below_drewN ?_ _|refine Below.alloc ?_ ?_ _|refine Below.setCell ?_ ?_ _)|(focus (simp;first|done|omega))|omega))))|go_in)
  go_ret
  exact ⟨ret_bool HN.out,by (repeat (first|with_reducible (first|exact hB|exact Below.refl _ _|refine Below.drew ?_|refine below_drewN ?_ _|refine Below.alloc ?_ ?_ _|refine Below.setCell ?_ ?_ _)|(focus (simp;first|done|omega))|omega))⟩
def nonePB (a b f s:Int) (len:Nat):Bool:=decide (a=0) && decide (b=0) && decide (f=0) && decide (s=0) && decide (len=0)
theorem isNoPacket_any (a b f s:Int) (o:Option Addr) (len cap:Nat) (w:World):
  Calls Tryz.prog 247 #[pkt a b f s (.slice o len cap)] w fun e w'=> e=.returned (.bool (nonePB a b f s len))∧Below w.heap.size w w':=by
 have hB:Below w.heap.size w w:=Below.refl _ _
 by_cases q0:a=0
 ·subst q0
  by_cases q1:b=0
  ·subst q1
   by_cases q2:f=0
   ·subst q2
    by_cases q3:s=0
    ·subst q3
     by_cases q4:len=0
     ·subst q4
      go_enter Tryz.func247,Tryz.ntmps247
      go_wp2
      all_goals go_ret
      all_goals exact ⟨ret_bool (by simp [nonePB]),by (repeat (first|with_reducible (first|exact hB|exact Below.refl _ _|refine Below.drew ?_|refine below_drewN ?_ _|refine Below.alloc ?_ ?_ _|refine Below.setCell ?_ ?_ _)|(focus (simp;first|done|omega))|omega))⟩
     ·skip
      go_enter Tryz.func247,Tryz.ntmps247
      go_wp2
      all_goals go_ret
      all_goals exact ⟨ret_bool (by have e2:decide (len=0)=false:=decide_eq_false (by omega);unfold nonePB;rw [e2];simp <;> omega),by (repeat (first|with_reducible (first|exact hB|exact Below.refl _ _|refine Below.drew ?_|refine below_drewN ?_ _|refine Below.alloc ?_ ?_ _|refine Below.setCell ?_ ?_ _)|(focus (simp;first|done|omega))|omega))⟩
    ·skip
     go_enter Tryz.func247,Tryz.ntmps247
     go_wp2
     all_goals go_ret
     all_goals exact ⟨ret_bool (by have e2:decide (s=0)=false:=decide_eq_false (by omega);unfold nonePB;rw [e2];simp <;> omega),by (repeat (first|with_reducible (first|exact hB|exact Below.refl _ _|refine Below.drew ?_|refine below_drewN ?_ _|refine Below.alloc ?_ ?_ _|refine Below.setCell ?_ ?_ _)|(focus (simp;first|done|omega))|omega))⟩
   ·skip
    go_enter Tryz.func247,Tryz.ntmps247
    go_wp2
    all_goals go_ret
    all_goals exact ⟨ret_bool (by have e2:decide (f=0)=false:=decide_eq_false (by omega);unfold nonePB;rw [e2];simp <;> omega),by (repeat (first|with_reducible (first|exact hB|exact Below.refl _ _|refine Below.drew ?_|refine below_drewN ?_ _|refine Below.alloc ?_ ?_ _|refine Below.setCell ?_ ?_ _)|(focus (simp;first|done|omega))|omega))⟩
  ·skip
   go_enter Tryz.func247,Tryz.ntmps247
   go_wp2
   all_goals go_ret
   all_goals exact ⟨ret_bool (by have e2:decide (b=0)=false:=decide_eq_false (by omega);unfold nonePB;rw [e2];simp <;> omega),by (repeat (first|with_reducible (first|exact hB|exact Below.refl _ _|refine Below.drew ?_|refine below_drewN ?_ _|refine Below.alloc ?_ ?_ _|refine Below.setCell ?_ ?_ _)|(focus (simp;first|done|omega))|omega))⟩
 ·skip
  go_enter Tryz.func247,Tryz.ntmps247
  go_wp2
  all_goals go_ret
  all_goals exact ⟨ret_bool (by have e2:decide (a=0)=false:=decide_eq_false (by omega);unfold nonePB;rw [e2];simp <;> omega),by (repeat (first|with_reducible (first|exact hB|exact Below.refl _ _|refine Below.drew ?_|refine below_drewN ?_ _|refine Below.alloc ?_ ?_ _|refine Below.setCell ?_ ?_ _)|(focus (simp;first|done|omega))|omega))⟩
end Go.Proofs.YtgplppfbinfelaaGreat
