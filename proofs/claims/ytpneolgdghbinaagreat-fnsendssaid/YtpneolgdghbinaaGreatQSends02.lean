/- Several texts in one: Bytes, Boxes, SPacket, SOpens. -/
import Derived.RegionTactic
import Derived.Deep.QuietTactic
import Derived.BigQuiet
import Derived.Test.YtpneolgdghbinaaGreatQSends01
namespace Go.Proofs.YtpneolgdghbinaaGreat
open Go.ChangeShapes Go.WideShapes Go.ChangeAt Go.RowKit Go.Joins
set_option linter.unusedVariables false
set_option linter.unusedSimpArgs false
set_option maxRecDepth 100000
set_option maxHeartbeats 40000000
def Rd (w:World) (o:Option Addr) (l:List Int):Prop:=
 l=[]∨∃b off,o=some ⟨b,off,none⟩∧b < w.heap.size∧∀i,i < l.length→w.cell? ⟨b,off+i,none⟩=some (.int .u8 (l.getD i 0))
def isB (l:List Int):Prop:=∀n∈l,0≤n∧n≤255
theorem Rd.kept {w w':World} {o:Option Addr} {l:List Int} (h:Rd w o l) (hb:Below w.heap.size w w'):Rd w' o l:=by
 rcases h with h|⟨b,off,ho,hlt,hc⟩
 ·exact .inl h
 ·exact .inr ⟨b,off,ho,Kbq hlt hb.size,fun i hi=> (hb.cell (p:=⟨b,off+i,none⟩) hlt).trans (hc i hi)⟩
theorem isB.get {l:List Int} (h:isB l) (k:Nat):0≤l.getD k 0∧l.getD k 0≤255:=by
 by_cases hk:k < l.length
 ·have:=h (l[k]) (List.getElem_mem hk)
  simpa [List.getD_eq_getElem?_getD,List.getElem?_eq_getElem hk] using this
 ·simp [List.getD_eq_getElem?_getD,List.getElem?_eq_none (Nat.le_of_not_lt hk)]
abbrev ownB (w:World) (base:Nat) (v:Value) (l:List Int):Prop:=w.ownsRow base 5 1 v l.length (l.map (Value.int .u8))
theorem ownB.rd {w:World} {base g n cap:Nat} {l:List Int} (h:ownB w base (.slice (some ⟨g,0,none⟩) n cap) l):Rd w (some ⟨g,0,none⟩) l:=by
 have hn:n=l.length:=by
  rcases h.2 with ⟨h',_⟩|⟨g',cap',cur,h',_⟩
  ·simp at h'
  ·simp at h';exact h'.2.1
 subst hn
 refine .inr ⟨g,0,rfl, ?_,fun i hi=> ?_⟩
 ·exact (h.lt g rfl).2
 ·have:=h.cellAt i (by omega)
  rw [Nat.zero_add,this]
  simp [hi]
theorem ownB.open {w:World} {base:Nat} {v:Value} {l:List Int} (h:ownB w base v l):∃o cap,v=.slice o l.length cap∧Rd w o l:=by
 have h0:=h
 rcases h.2 with ⟨h1,h2⟩|⟨g,cap,cur,hv,_⟩
 ·have e:l=[]:=List.eq_nil_of_length_eq_zero h2
  subst e
  exact ⟨none,0,by simpa using h1,.inl rfl⟩
 ·subst hv
  exact ⟨_,cap,rfl,h0.rd⟩
theorem Rd.news {w:World} {ad:Addr} {l:List Int} (h:Rd w (some ad) l):∀j u,(l.map (Value.int .u8))[j]? =some u→w.cell? (ad.add j)=some u:=by
 intro j u hj
 rcases h with h|⟨b,off,ho,_,hc⟩
 ·subst h;simp at hj
 ·cases ho
  have hlt:j < l.length:=by
   rcases Nat.lt_or_ge j l.length with h|h
   ·exact h
   ·simp [List.getElem?_eq_none h] at hj
  have e2:(⟨b,off,none⟩:Addr).add j=⟨b,off+j,none⟩:=by by_cases h:j=0 <;> simp [Addr.add,h]
  rw [e2,hc j hlt]
  simpa [hlt] using hj
theorem Rd.nil {w:World} {l:List Int} (h:Rd w none l):l=[]:=by
 rcases h with h|⟨b,off,ho,_⟩
 ·exact h
 ·cases ho
def RdB (C:Nat) (w:World) (o:Option Addr) (l:List Int):Prop:=
 l=[]∨∃b off,o=some ⟨b,off,none⟩∧b < C∧∀i,i < l.length→w.cell? ⟨b,off+i,none⟩=some (.int .u8 (l.getD i 0))
theorem Rd.toB {w:World} {o:Option Addr} {l:List Int} (h:Rd w o l):RdB w.heap.size w o l:=h
theorem RdB.kept {C D:Nat} {w w':World} {o:Option Addr} {l:List Int} (h:RdB C w o l) (hb:Below D w w') (hc:C≤D):RdB C w' o l:=by
 rcases h with h|⟨b,off,ho,hlt,r⟩
 ·exact .inl h
 ·exact .inr ⟨b,off,ho,hlt,fun i hi=> (hb.cell (p:=⟨b,off+i,none⟩) (Kbq hlt hc)).trans (r i hi)⟩
theorem Q03 {w w':World} {base:Nat} {e:TypeId} {size:Nat} {v:Value} {n:Nat} {xs:List Value} (h:w.ownsRow base e size v n xs) (hb:Below w.heap.size w w'):w'.ownsRow base e size v n xs:=
 h.kept (row:=none) ⟨hb.os,hb.tape,hb.output,hb.size,fun k hk _=> hb.block k hk⟩ (by cases v.ownBlock <;> simp)
theorem Q6a {H:Type} {enc:TypeId × Value→H} {W:World} {fuel:Nat} {cs:List Value} {x:DataW H × List MemPlace} (h:DataW.trod enc Tryz.prog W 0 (fun _=> true) true fuel 22 cs=some x):
  ∃(o:Option Addr) (cap:Nat) (l:List Int),cs=[.slice o l.length cap]∧l.length≤maxLen∧Rd W o l∧isB l:=by
 rcases open_ints Tryz.underlying22 Tryz.underlying5 (by kernel_rfl) h with ⟨hcs,_⟩|⟨a,len,cap,zs,hcs,_,hl,hm,hz,_,hcell,hwz⟩
 ·exact ⟨none,0,[],hcs,Kcq _,.inl rfl,fun n hn=> by cases hn⟩
 ·have hz':zs.length=cap:=by simpa using hz
  have htk:(zs.take len).length=len:=by simp;omega
  refine ⟨some a,cap,zs.take len,by rw [htk];exact hcs,by omega, ?_, ?_⟩
  ·by_cases h0:len=0
   ·left;simp [h0]
   ·right
    obtain ⟨b,off,spot⟩:=a
    have hc:=hcell 0 (by omega)
    have hspot:spot=none:=by simpa [Addr.add] using World.cell?_spot hc
    subst hspot
    refine ⟨b,off,rfl, ?_,fun i hi=> ?_⟩
    ·have hc':W.cell? ⟨b,off,none⟩=some (.int .u8 (zs.getD 0 0)):=by simpa [Addr.add] using hc
     rcases Nat.lt_or_ge b W.heap.size with h|h
     ·exact h
     ·simp [World.cell?,Array.getElem?_eq_none h] at hc'
    ·have h1:=hcell i (by omega)
     have e:(zs.take len).getD i 0=zs.getD i 0:=by
      have:i < len:=by omega
      simp [List.getD_eq_getElem?_getD,List.getElem?_take,this]
     have e2:(⟨b,off,none⟩:Addr).add i=⟨b,off+i,none⟩:=by by_cases h:i=0 <;> simp [Addr.add,h]
     rw [e,←e2]
     exact h1
  ·intro n hn
   have:=hwz n (List.mem_of_mem_take hn)
   simpa [Lit.wf,IntKind.min,IntKind.max,IntKind.signed,IntKind.bits] using this
theorem QbX {H:Type} {enc:TypeId × Value→H} {W:World} {base:Nat} {v:Value} {d:DataW H} {p:List MemPlace}
  (hv:Value.okWide Tryz.prog W .any base 22 v) (h:DataW.Trod enc Tryz.prog W 0 (fun _=> true) true 22 v d p):
  ∃(o:Option Addr) (cap:Nat) (l:List Int),v=.slice o l.length cap∧l.length≤maxLen∧Rd W o l∧isB l:=by
 obtain ⟨a0,len0,cap0,rfl⟩:=okWide_slice Tryz.underlying22 hv;obtain ⟨fuel,hf⟩:=h;obtain ⟨o,cap,l,hcs,r⟩:=Q6a hf
 simp [Value.cells] at hcs
 obtain ⟨rfl,rfl,rfl⟩:=hcs
 exact ⟨_,_,l,rfl,r⟩
theorem QcE:(Tryz.prog.info? 5).map (fun i=> (i.zero,i.size,i.bytes))=some (some (.int .u8 0),1,1):=by kernel_rfl
theorem Qh5 (l:List Int) (k:Nat) (h:k < l.length):l.getD k 0=l[k]:=by simp [h]
theorem Q4p (l:List Int) (k:Nat) (h:k < l.length):l.take (k+1)=l.take k++[l.getD k 0]:=by
 rw [List.take_succ_eq_append_getElem h,Qh5 l k h]
abbrev pkt (a b f s:Int) (v:Value):Value:=.agg #[.int .i64 a,.int .i64 b,.int .i64 f,.int .i64 s,v]
def boxed (k:Nat) (a b f s:Int) (v:Value) (w:World):Prop:=
 w.cell? ⟨k,0,none⟩=some (.int .i64 a)∧w.cell? ⟨k,1,none⟩=some (.int .i64 b)∧w.cell? ⟨k,2,none⟩=some (.int .i64 f)∧w.cell? ⟨k,3,none⟩=some (.int .i64 s)∧w.cell? ⟨k,4,none⟩=some v
theorem boxed.kept {k:Nat} {a b f s:Int} {v:Value} {w w':World} {B:Nat} (h:boxed k a b f s v w) (hb:Below B w w') (hk:k < B):boxed k a b f s v w':=
 ⟨(hb.cell (p:=⟨k,0,none⟩) hk).trans h.1,(hb.cell (p:=⟨k,1,none⟩) hk).trans h.2.1,(hb.cell (p:=⟨k,2,none⟩) hk).trans h.2.2.1,(hb.cell (p:=⟨k,3,none⟩) hk).trans h.2.2.2.1,(hb.cell (p:=⟨k,4,none⟩) hk).trans h.2.2.2.2⟩
theorem Q9E (w:World) (a b f s:Int) (v:Value) (e:TypeId):boxed w.heap.size a b f s v (w.alloc (.cells #[.int .i64 a,.int .i64 b,.int .i64 f,.int .i64 s,v] e)):=by
 unfold boxed;simp
def empty5 (k:Nat) (w:World):Prop:=boxed k 0 0 0 0 (.slice none 0 0) w∧(w.frozen? ⟨k,0,none⟩=false∧w.frozen? ⟨k,1,none⟩=false∧w.frozen? ⟨k,2,none⟩=false∧w.frozen? ⟨k,3,none⟩=false∧w.frozen? ⟨k,4,none⟩=false)
theorem empty5.kept {k:Nat} {w w':World} {B:Nat} (h:empty5 k w) (hb:Below B w w') (hk:k < B):empty5 k w':=
 ⟨h.1.kept hb hk,(hb.frozen (p:=⟨k,0,none⟩) hk).trans h.2.1,(hb.frozen (p:=⟨k,1,none⟩) hk).trans h.2.2.1,(hb.frozen (p:=⟨k,2,none⟩) hk).trans h.2.2.2.1,(hb.frozen (p:=⟨k,3,none⟩) hk).trans h.2.2.2.2.1,(hb.frozen (p:=⟨k,4,none⟩) hk).trans h.2.2.2.2.2⟩
theorem Q5D (w:World) (e:TypeId):empty5 w.heap.size (w.alloc (.cells #[.int .i64 0,.int .i64 0,.int .i64 0,.int .i64 0,.slice none 0 0] e)):=by
 unfold empty5 boxed;simp
def Q0q (a b f s:Int) (n:Nat):Bool:=
 Q0f a b && decide (0≤f) && decide (f < 16) && decide (0≤s) && decide (s < 65536) && decide ((n:Int)≤16) && (bits .and .i64 f 1==0||bits .and .i64 f 12==0)
theorem Q0X {a b f s:Int} {n:Nat}:Q0q a b f s n=true↔Q0f a b=true∧0≤f∧f < 16∧0≤s∧s < 65536∧(n:Int)≤16∧(bits .and .i64 f 1=0∨bits .and .i64 f 12=0):=by
 simp [Q0q,and_assoc]
theorem Q58 {a b f s:Int} {n:Nat} (h1:Q0f a b=true) (h2:0≤f) (h3:f < 16) (h4:0≤s) (h5:s < 65536) (h6:(n:Int)≤16):Q0q a b f s n=(bits .and .i64 f 1==0||bits .and .i64 f 12==0):=by
 simp [Q0q,h1,h2,h3,h4,h5,h6]
theorem QcB (a b f s:Int) (o:Option Addr) (len cap:Nat) (w:World) (hl:len≤maxLen):
  Calls Tryz.prog 10 #[pkt a b f s (.slice o len cap)] w fun e w'=> e=.returned (.bool (Q0q a b f s len))∧Below w.heap.size w w':=by
 have hB:Below w.heap.size w w:=Below.refl _ _
 by_cases h1:Q0f a b=true
 ·by_cases h2:0≤f
  ·by_cases h3:f < 16
   ·by_cases h4:0≤s
    ·by_cases h5:s < 65536
     ·by_cases h6:(len:Int)≤16
      ·by_cases h7:bits .and .i64 f 1=0
       ·have HY:=Q02 (show true=Q0q a b f s len by rw [Q58 h1 h2 h3 h4 h5 h6];simp [h7])
        go_enter Tryz.func10,Tryz.ntmps10
        go_wp2_with (first|(go_at_call 44;refine (Q0L _ _ _).mono ?_;rintro e w1 ⟨rfl,hb⟩;obtain ⟨hc,hf⟩:=Q1z hb;have hz0:w.heap.size < w1.heap.size:=(by have hz:=hb.size;(try simp at hz);omega);have hB:Below w.heap.size w w1:=(by refine Below.trans ?_ (hb.mono (by have hs:=hB.size;(try simp) <;> omega));(repeat (first|with_reducible (first|exact hB|exact Below.refl _ _|refine Below.drew ?_|refine below_drewN ?_ _|refine Below.alloc ?_ ?_ _|refine Below.setCell ?_ ?_ _)|(focus (simp;first|done|omega))|omega)))))
        go_ret
        exact ⟨Q0c HY.out,by (repeat (first|with_reducible (first|exact hB|exact Below.refl _ _|refine Below.drew ?_|refine below_drewN ?_ _|refine Below.alloc ?_ ?_ _|refine Below.setCell ?_ ?_ _)|(focus (simp;first|done|omega))|omega))⟩
       ·have HY:=Q02 (Q58 (a:=a) (b:=b) (f:=f) (s:=s) (n:=len) h1 h2 h3 h4 h5 h6).symm
        go_enter Tryz.func10,Tryz.ntmps10
        go_wp2_with (first|(go_at_call 44;refine (Q0L _ _ _).mono ?_;rintro e w1 ⟨rfl,hb⟩;obtain ⟨hc,hf⟩:=Q1z hb;have hz0:w.heap.size < w1.heap.size:=(by have hz:=hb.size;(try simp at hz);omega);have hB:Below w.heap.size w w1:=(by refine Below.trans ?_ (hb.mono (by have hs:=hB.size;(try simp) <;> omega));(repeat (first|with_reducible (first|exact hB|exact Below.refl _ _|refine Below.drew ?_|refine below_drewN ?_ _|refine Below.alloc ?_ ?_ _|refine Below.setCell ?_ ?_ _)|(focus (simp;first|done|omega))|omega)))))
        go_ret
        exact ⟨Q0c HY.out,by (repeat (first|with_reducible (first|exact hB|exact Below.refl _ _|refine Below.drew ?_|refine below_drewN ?_ _|refine Below.alloc ?_ ?_ _|refine Below.setCell ?_ ?_ _)|(focus (simp;first|done|omega))|omega))⟩
      ·have HN:=Q02 (Q1H (Q0X (a:=a) (b:=b) (f:=f) (s:=s) (n:=len)) (fun q=> h6 q.2.2.2.2.2.1))
       go_enter Tryz.func10,Tryz.ntmps10
       go_wp2_with (first|(go_at_call 44;refine (Q0L _ _ _).mono ?_;rintro e w1 ⟨rfl,hb⟩;obtain ⟨hc,hf⟩:=Q1z hb;have hz0:w.heap.size < w1.heap.size:=(by have hz:=hb.size;(try simp at hz);omega);have hB:Below w.heap.size w w1:=(by refine Below.trans ?_ (hb.mono (by have hs:=hB.size;(try simp) <;> omega));(repeat (first|with_reducible (first|exact hB|exact Below.refl _ _|refine Below.drew ?_|refine below_drewN ?_ _|refine Below.alloc ?_ ?_ _|refine Below.setCell ?_ ?_ _)|(focus (simp;first|done|omega))|omega)))))
       go_ret
       exact ⟨Q0c HN.out,by (repeat (first|with_reducible (first|exact hB|exact Below.refl _ _|refine Below.drew ?_|refine below_drewN ?_ _|refine Below.alloc ?_ ?_ _|refine Below.setCell ?_ ?_ _)|(focus (simp;first|done|omega))|omega))⟩
     ·have HN:=Q02 (Q1H (Q0X (a:=a) (b:=b) (f:=f) (s:=s) (n:=len)) (fun q=> h5 q.2.2.2.2.1))
      go_enter Tryz.func10,Tryz.ntmps10
      go_wp2_with (first|(go_at_call 44;refine (Q0L _ _ _).mono ?_;rintro e w1 ⟨rfl,hb⟩;obtain ⟨hc,hf⟩:=Q1z hb;have hz0:w.heap.size < w1.heap.size:=(by have hz:=hb.size;(try simp at hz);omega);have hB:Below w.heap.size w w1:=(by refine Below.trans ?_ (hb.mono (by have hs:=hB.size;(try simp) <;> omega));(repeat (first|with_reducible (first|exact hB|exact Below.refl _ _|refine Below.drew ?_|refine below_drewN ?_ _|refine Below.alloc ?_ ?_ _|refine Below.setCell ?_ ?_ _)|(focus (simp;first|done|omega))|omega)))))
      go_ret
      exact ⟨Q0c HN.out,by (repeat (first|with_reducible (first|exact hB|exact Below.refl _ _|refine Below.drew ?_|refine below_drewN ?_ _|refine Below.alloc ?_ ?_ _|refine Below.setCell ?_ ?_ _)|(focus (simp;first|done|omega))|omega))⟩
    ·have HN:=Q02 (Q1H (Q0X (a:=a) (b:=b) (f:=f) (s:=s) (n:=len)) (fun q=> h4 q.2.2.2.1))
     go_enter Tryz.func10,Tryz.ntmps10
     go_wp2_with (first|(go_at_call 44;refine (Q0L _ _ _).mono ?_;rintro e w1 ⟨rfl,hb⟩;obtain ⟨hc,hf⟩:=Q1z hb;have hz0:w.heap.size < w1.heap.size:=(by have hz:=hb.size;(try simp at hz);omega);have hB:Below w.heap.size w w1:=(by refine Below.trans ?_ (hb.mono (by have hs:=hB.size;(try simp) <;> omega));(repeat (first|with_reducible (first|exact hB|exact Below.refl _ _|refine Below.drew ?_|refine below_drewN ?_ _|refine Below.alloc ?_ ?_ _|refine Below.setCell ?_ ?_ _)|(focus (simp;first|done|omega))|omega)))))
     go_ret
     exact ⟨Q0c HN.out,by (repeat (first|with_reducible (first|exact hB|exact Below.refl _ _|refine Below.drew ?_|refine below_drewN ?_ _|refine Below.alloc ?_ ?_ _|refine Below.setCell ?_ ?_ _)|(focus (simp;first|done|omega))|omega))⟩
   ·have HN:=Q02 (Q1H (Q0X (a:=a) (b:=b) (f:=f) (s:=s) (n:=len)) (fun q=> h3 q.2.2.1))
    go_enter Tryz.func10,Tryz.ntmps10
    go_wp2_with (first|(go_at_call 44;refine (Q0L _ _ _).mono ?_;rintro e w1 ⟨rfl,hb⟩;obtain ⟨hc,hf⟩:=Q1z hb;have hz0:w.heap.size < w1.heap.size:=(by have hz:=hb.size;(try simp at hz);omega);have hB:Below w.heap.size w w1:=(by refine Below.trans ?_ (hb.mono (by have hs:=hB.size;(try simp) <;> omega));(repeat (first|with_reducible (first|exact hB|exact Below.refl _ _|refine Below.drew ?_|refine below_drewN ?_ _|refine Below.alloc ?_ ?_ _|refine Below.setCell ?_ ?_ _)|(focus (simp;first|done|omega))|omega)))))
    go_ret
    exact ⟨Q0c HN.out,by (repeat (first|with_reducible (first|exact hB|exact Below.refl _ _|refine Below.drew ?_|refine below_drewN ?_ _|refine Below.alloc ?_ ?_ _|refine Below.setCell ?_ ?_ _)|(focus (simp;first|done|omega))|omega))⟩
  ·have HN:=Q02 (Q1H (Q0X (a:=a) (b:=b) (f:=f) (s:=s) (n:=len)) (fun q=> h2 q.2.1))
   go_enter Tryz.func10,Tryz.ntmps10
   go_wp2_with (first|(go_at_call 44;refine (Q0L _ _ _).mono ?_;rintro e w1 ⟨rfl,hb⟩;obtain ⟨hc,hf⟩:=Q1z hb;have hz0:w.heap.size < w1.heap.size:=(by have hz:=hb.size;(try simp at hz);omega);have hB:Below w.heap.size w w1:=(by refine Below.trans ?_ (hb.mono (by have hs:=hB.size;(try simp) <;> omega));(repeat (first|with_reducible (first|exact hB|exact Below.refl _ _|refine Below.drew ?_|refine below_drewN ?_ _|refine Below.alloc ?_ ?_ _|refine Below.setCell ?_ ?_ _)|(focus (simp;first|done|omega))|omega)))))
   go_ret
   exact ⟨Q0c HN.out,by (repeat (first|with_reducible (first|exact hB|exact Below.refl _ _|refine Below.drew ?_|refine below_drewN ?_ _|refine Below.alloc ?_ ?_ _|refine Below.setCell ?_ ?_ _)|(focus (simp;first|done|omega))|omega))⟩
 ·have HN:=Q02 (Q1H (Q0X (a:=a) (b:=b) (f:=f) (s:=s) (n:=len)) (fun q=> h1 q.1))
  go_enter Tryz.func10,Tryz.ntmps10
  go_wp2_with (first|(go_at_call 44;refine (Q0L _ _ _).mono ?_;rintro e w1 ⟨rfl,hb⟩;obtain ⟨hc,hf⟩:=Q1z hb;have hz0:w.heap.size < w1.heap.size:=(by have hz:=hb.size;(try simp at hz);omega);have hB:Below w.heap.size w w1:=(by refine Below.trans ?_ (hb.mono (by have hs:=hB.size;(try simp) <;> omega));(repeat (first|with_reducible (first|exact hB|exact Below.refl _ _|refine Below.drew ?_|refine below_drewN ?_ _|refine Below.alloc ?_ ?_ _|refine Below.setCell ?_ ?_ _)|(focus (simp;first|done|omega))|omega)))))
  go_ret
  exact ⟨Q0c HN.out,by (repeat (first|with_reducible (first|exact hB|exact Below.refl _ _|refine Below.drew ?_|refine below_drewN ?_ _|refine Below.alloc ?_ ?_ _|refine Below.setCell ?_ ?_ _)|(focus (simp;first|done|omega))|omega))⟩
def Q43 (f:Int):Bool:=decide (0≤f) && decide (f < 16) && (bits .and .i64 f 1==0||bits .and .i64 f 12==0)
theorem Q4E {f:Int}:Q43 f=true↔0≤f∧f < 16∧(bits .and .i64 f 1=0∨bits .and .i64 f 12=0):=by simp [Q43,and_assoc]
theorem Q6I {f:Int} (h2:0≤f) (h3:f < 16):Q43 f=(bits .and .i64 f 1==0||bits .and .i64 f 12==0):=by simp [Q43,h2,h3]
theorem Q1w {a b f s:Int} {n:Nat}:Q0q a b f s n=true↔(Q0f a b=true∧Q43 f=true∧0≤s∧s≤65535∧(n:Int)≤16∧True):=by
 rw [Q0X,Q4E]
 constructor
 ·rintro ⟨q1,q2,q3,q4,q5,q6,q7⟩;exact ⟨q1,⟨q2,q3,q7⟩,q4,by omega,q6,trivial⟩
 ·rintro ⟨q1,⟨q2,q3,q7⟩,q4,q5,q6,_⟩;exact ⟨q1,q2,q3,q4,by omega,q6,q7⟩
theorem Q7x {a b f s:Int} {n:Nat} (h1:Q0f a b=true) (h2:Q43 f=true) (h4:0≤s) (h5:s≤65535):decide ((n:Int)≤16)=Q0q a b f s n:=by
 rw [Bool.eq_iff_iff,Q1w];simp [h1,h2,h4,h5]
theorem Q38 (f:Int) (w:World):Calls Tryz.prog 88 #[.int .i64 f] w fun e w'=> e=.returned (.bool (Q43 f))∧w=w':=by
 by_cases h2:0≤f
 ·by_cases h3:f < 16
  ·by_cases h7:bits .and .i64 f 1=0
   ·go_enter Tryz.func88,Tryz.ntmps88
    go_wp2
    go_ret
    exact ⟨Q0c (by rw [Q6I h2 h3];simp [h7]),rfl⟩
   ·go_enter Tryz.func88,Tryz.ntmps88
    go_wp2
    go_ret
    exact ⟨Q0c (by rw [Q6I h2 h3];simp [h7,bne]),rfl⟩
  ·have HN:=Q02 (Q1H (Q4E (f:=f)) (fun q=> h3 q.2.1))
   go_enter Tryz.func88,Tryz.ntmps88
   go_wp2
   go_ret
   exact ⟨Q0c HN.out,rfl⟩
 ·have HN:=Q02 (Q1H (Q4E (f:=f)) (fun q=> h2 q.1))
  go_enter Tryz.func88,Tryz.ntmps88
  go_wp2
  go_ret
  exact ⟨Q0c HN.out,rfl⟩
theorem Q15 (a b f s:Int) (o:Option Addr) (len cap:Nat) (w:World) (hl:len≤maxLen):
  Calls Tryz.prog 38 #[pkt a b f s (.slice o len cap)] w fun e w'=> e=.returned (.bool (Q0q a b f s len))∧Below w.heap.size w w':=by
 have hB:Below w.heap.size w w:=Below.refl _ _
 by_cases h1:Q0f a b=true
 ·by_cases h2:Q43 f=true
  ·by_cases h4:0≤s
   ·by_cases h5:s≤65535
    ·have HY:=Q02 (Q7x (a:=a) (b:=b) (f:=f) (s:=s) (n:=len) h1 h2 h4 h5)
     go_enter Tryz.func38,Tryz.ntmps38
     go_wp2_with (first|(go_at_call 53;refine (Q0K _ _ _).mono ?_;rintro e w1 ⟨rfl,hb⟩;obtain ⟨hc,hf⟩:=Q1z hb;have hz0:w.heap.size < w1.heap.size:=(by have hz:=hb.size;(try simp at hz);omega);have hB:Below w.heap.size w w1:=(by refine Below.trans ?_ (hb.mono (by have hs:=hB.size;(try simp) <;> omega));(repeat (first|with_reducible (first|exact hB|exact Below.refl _ _|refine Below.drew ?_|refine below_drewN ?_ _|refine Below.alloc ?_ ?_ _|refine Below.setCell ?_ ?_ _)|(focus (simp;first|done|omega))|omega))))|(go_at_call 88;refine (Q38 _ _).mono ?_;rintro e w2 ⟨rfl,rfl⟩)|go_in)
     go_ret
     exact ⟨Q0c HY.out,by (repeat (first|with_reducible (first|exact hB|exact Below.refl _ _|refine Below.drew ?_|refine below_drewN ?_ _|refine Below.alloc ?_ ?_ _|refine Below.setCell ?_ ?_ _)|(focus (simp;first|done|omega))|omega))⟩
    ·have HN:=Q02 (Q1H (Q1w (a:=a) (b:=b) (f:=f) (s:=s) (n:=len)) (fun q=> h5 q.2.2.2.1))
     go_enter Tryz.func38,Tryz.ntmps38
     go_wp2_with (first|(go_at_call 53;refine (Q0K _ _ _).mono ?_;rintro e w1 ⟨rfl,hb⟩;obtain ⟨hc,hf⟩:=Q1z hb;have hz0:w.heap.size < w1.heap.size:=(by have hz:=hb.size;(try simp at hz);omega);have hB:Below w.heap.size w w1:=(by refine Below.trans ?_ (hb.mono (by have hs:=hB.size;(try simp) <;> omega));(repeat (first|with_reducible (first|exact hB|exact Below.refl _ _|refine Below.drew ?_|refine below_drewN ?_ _|refine Below.alloc ?_ ?_ _|refine Below.setCell ?_ ?_ _)|(focus (simp;first|done|omega))|omega))))|(go_at_call 88;refine (Q38 _ _).mono ?_;rintro e w2 ⟨rfl,rfl⟩)|go_in)
     go_ret
     exact ⟨Q0c HN.out,by (repeat (first|with_reducible (first|exact hB|exact Below.refl _ _|refine Below.drew ?_|refine below_drewN ?_ _|refine Below.alloc ?_ ?_ _|refine Below.setCell ?_ ?_ _)|(focus (simp;first|done|omega))|omega))⟩
   ·have HN:=Q02 (Q1H (Q1w (a:=a) (b:=b) (f:=f) (s:=s) (n:=len)) (fun q=> h4 q.2.2.1))
    go_enter Tryz.func38,Tryz.ntmps38
    go_wp2_with (first|(go_at_call 53;refine (Q0K _ _ _).mono ?_;rintro e w1 ⟨rfl,hb⟩;obtain ⟨hc,hf⟩:=Q1z hb;have hz0:w.heap.size < w1.heap.size:=(by have hz:=hb.size;(try simp at hz);omega);have hB:Below w.heap.size w w1:=(by refine Below.trans ?_ (hb.mono (by have hs:=hB.size;(try simp) <;> omega));(repeat (first|with_reducible (first|exact hB|exact Below.refl _ _|refine Below.drew ?_|refine below_drewN ?_ _|refine Below.alloc ?_ ?_ _|refine Below.setCell ?_ ?_ _)|(focus (simp;first|done|omega))|omega))))|(go_at_call 88;refine (Q38 _ _).mono ?_;rintro e w2 ⟨rfl,rfl⟩)|go_in)
    go_ret
    exact ⟨Q0c HN.out,by (repeat (first|with_reducible (first|exact hB|exact Below.refl _ _|refine Below.drew ?_|refine below_drewN ?_ _|refine Below.alloc ?_ ?_ _|refine Below.setCell ?_ ?_ _)|(focus (simp;first|done|omega))|omega))⟩
  ·have HN:=Q02 (Q1H (Q1w (a:=a) (b:=b) (f:=f) (s:=s) (n:=len)) (fun q=> h2 q.2.1))
   go_enter Tryz.func38,Tryz.ntmps38
   go_wp2_with (first|(go_at_call 53;refine (Q0K _ _ _).mono ?_;rintro e w1 ⟨rfl,hb⟩;obtain ⟨hc,hf⟩:=Q1z hb;have hz0:w.heap.size < w1.heap.size:=(by have hz:=hb.size;(try simp at hz);omega);have hB:Below w.heap.size w w1:=(by refine Below.trans ?_ (hb.mono (by have hs:=hB.size;(try simp) <;> omega));(repeat (first|with_reducible (first|exact hB|exact Below.refl _ _|refine Below.drew ?_|refine below_drewN ?_ _|refine Below.alloc ?_ ?_ _|refine Below.setCell ?_ ?_ _)|(focus (simp;first|done|omega))|omega))))|(go_at_call 88;refine (Q38 _ _).mono ?_;rintro e w2 ⟨rfl,rfl⟩)|go_in)
   go_ret
   exact ⟨Q0c HN.out,by (repeat (first|with_reducible (first|exact hB|exact Below.refl _ _|refine Below.drew ?_|refine below_drewN ?_ _|refine Below.alloc ?_ ?_ _|refine Below.setCell ?_ ?_ _)|(focus (simp;first|done|omega))|omega))⟩
 ·have HN:=Q02 (Q1H (Q1w (a:=a) (b:=b) (f:=f) (s:=s) (n:=len)) (fun q=> h1 q.1))
  go_enter Tryz.func38,Tryz.ntmps38
  go_wp2_with (first|(go_at_call 53;refine (Q0K _ _ _).mono ?_;rintro e w1 ⟨rfl,hb⟩;obtain ⟨hc,hf⟩:=Q1z hb;have hz0:w.heap.size < w1.heap.size:=(by have hz:=hb.size;(try simp at hz);omega);have hB:Below w.heap.size w w1:=(by refine Below.trans ?_ (hb.mono (by have hs:=hB.size;(try simp) <;> omega));(repeat (first|with_reducible (first|exact hB|exact Below.refl _ _|refine Below.drew ?_|refine below_drewN ?_ _|refine Below.alloc ?_ ?_ _|refine Below.setCell ?_ ?_ _)|(focus (simp;first|done|omega))|omega))))|(go_at_call 88;refine (Q38 _ _).mono ?_;rintro e w2 ⟨rfl,rfl⟩)|go_in)
  go_ret
  exact ⟨Q0c HN.out,by (repeat (first|with_reducible (first|exact hB|exact Below.refl _ _|refine Below.drew ?_|refine below_drewN ?_ _|refine Below.alloc ?_ ?_ _|refine Below.setCell ?_ ?_ _)|(focus (simp;first|done|omega))|omega))⟩
def Q2k (a b f s:Int) (n:Nat):Bool:=Q0q a b f s n && (bits .and .i64 f 3==1)
theorem Q7D (f:Int) (h0:0≤f) (h1:f < 16):((bits .and .i64 f 1 !=0) && !(bits .and .i64 f 2 !=0))=(bits .and .i64 f 3==1):=by
 have h:f=0∨f=1∨f=2∨f=3∨f=4∨f=5∨f=6∨f=7∨f=8∨f=9∨f=10∨f=11∨f=12∨f=13∨f=14∨f=15:=by omega
 rcases h with h|h|h|h|h|h|h|h|h|h|h|h|h|h|h|h <;> subst h <;> decide+kernel
theorem Qeu {a b f s:Int} {n:Nat} (h:¬Q0q a b f s n=true):false=Q2k a b f s n:=by simp [Q2k,h]
theorem Q5O {a b f s:Int} {n:Nat} (h:Q0q a b f s n=true):(bits .and .i64 f 3==1)=Q2k a b f s n:=by simp [Q2k,h]
theorem Qcq {a b f s:Int} {n:Nat} (h:Q0q a b f s n=true) (h1:¬(bits .and .i64 f 1 !=0)=true):false=Q2k a b f s n:=by
 have q:=Q0X.1 h
 rw [←Q5O h,←Q7D f q.2.1 q.2.2.1]
 simp [Bool.eq_false_iff.2 h1]
theorem Qat {a b f s:Int} {n:Nat} (h:Q0q a b f s n=true) (h1:(bits .and .i64 f 1 !=0)=true):(!(bits .and .i64 f 2 !=0))=Q2k a b f s n:=by
 have q:=Q0X.1 h
 rw [←Q5O h,←Q7D f q.2.1 q.2.2.1,h1,Bool.true_and]
theorem Q4Q (a b f s:Int) (o:Option Addr) (len cap:Nat) (w:World) (hl:len≤maxLen):
  Calls Tryz.prog 14 #[pkt a b f s (.slice o len cap)] w fun e w'=> e=.returned (.bool (Q2k a b f s len))∧Below w.heap.size w w':=by
 have hB:Below w.heap.size w w:=Below.refl _ _
 by_cases h:Q0q a b f s len=true
 ·by_cases h1:(bits .and .i64 f 1 !=0)=true
  ·have HY:=Q02 (Qat h h1)
   go_enter Tryz.func14,Tryz.ntmps14
   go_wp2_with (first|(go_at_call 38;refine (Q15 a b f s o len cap _ hl).mono ?_;rintro e w1 ⟨rfl,hb⟩;obtain ⟨hc,hf⟩:=Q1z hb;have hz0:w.heap.size < w1.heap.size:=(by have hz:=hb.size;(try simp at hz);omega);have hB:Below w.heap.size w w1:=(by refine Below.trans ?_ (hb.mono (by have hs:=hB.size;(try simp) <;> omega));(repeat (first|with_reducible (first|exact hB|exact Below.refl _ _|refine Below.drew ?_|refine below_drewN ?_ _|refine Below.alloc ?_ ?_ _|refine Below.setCell ?_ ?_ _)|(focus (simp;first|done|omega))|omega))))|go_in)
   go_ret
   exact ⟨Q0c HY.out,by (repeat (first|with_reducible (first|exact hB|exact Below.refl _ _|refine Below.drew ?_|refine below_drewN ?_ _|refine Below.alloc ?_ ?_ _|refine Below.setCell ?_ ?_ _)|(focus (simp;first|done|omega))|omega))⟩
  ·have HN:=Q02 (Qcq h h1)
   have h1':=Bool.eq_false_iff.2 h1
   go_enter Tryz.func14,Tryz.ntmps14
   go_wp2_with (first|(go_at_call 38;refine (Q15 a b f s o len cap _ hl).mono ?_;rintro e w1 ⟨rfl,hb⟩;obtain ⟨hc,hf⟩:=Q1z hb;have hz0:w.heap.size < w1.heap.size:=(by have hz:=hb.size;(try simp at hz);omega);have hB:Below w.heap.size w w1:=(by refine Below.trans ?_ (hb.mono (by have hs:=hB.size;(try simp) <;> omega));(repeat (first|with_reducible (first|exact hB|exact Below.refl _ _|refine Below.drew ?_|refine below_drewN ?_ _|refine Below.alloc ?_ ?_ _|refine Below.setCell ?_ ?_ _)|(focus (simp;first|done|omega))|omega))))|go_in)
   go_ret
   exact ⟨Q0c HN.out,by (repeat (first|with_reducible (first|exact hB|exact Below.refl _ _|refine Below.drew ?_|refine below_drewN ?_ _|refine Below.alloc ?_ ?_ _|refine Below.setCell ?_ ?_ _)|(focus (simp;first|done|omega))|omega))⟩
 ·have HN:=Q02 (Qeu h)
  go_enter Tryz.func14,Tryz.ntmps14
  go_wp2_with (first|(go_at_call 38;refine (Q15 a b f s o len cap _ hl).mono ?_;rintro e w1 ⟨rfl,hb⟩;obtain ⟨hc,hf⟩:=Q1z hb;have hz0:w.heap.size < w1.heap.size:=(by have hz:=hb.size;(try simp at hz);omega);have hB:Below w.heap.size w w1:=(by refine Below.trans ?_ (hb.mono (by have hs:=hB.size;(try simp) <;> omega));(repeat (first|with_reducible (first|exact hB|exact Below.refl _ _|refine Below.drew ?_|refine below_drewN ?_ _|refine Below.alloc ?_ ?_ _|refine Below.setCell ?_ ?_ _)|(focus (simp;first|done|omega))|omega))))|go_in)
  go_ret
  exact ⟨Q0c HN.out,by (repeat (first|with_reducible (first|exact hB|exact Below.refl _ _|refine Below.drew ?_|refine below_drewN ?_ _|refine Below.alloc ?_ ?_ _|refine Below.setCell ?_ ?_ _)|(focus (simp;first|done|omega))|omega))⟩
end Go.Proofs.YtpneolgdghbinaaGreat
