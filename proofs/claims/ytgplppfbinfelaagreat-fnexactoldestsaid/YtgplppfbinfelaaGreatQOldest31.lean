/- Mails as a shape: one that came in, its size, its copy, its comparison. -/
import Derived.Test.YtgplppfbinfelaaGreatQOldest29
import Derived.Test.YtgplppfbinfelaaGreatQOldest30
namespace Go.Proofs.YtgplppfbinfelaaGreat
open Go.ChangeShapes Go.WideShapes Go.ChangeAt Go.RowKit Go.Joins
set_option linter.unusedVariables false
set_option linter.unusedSimpArgs false
set_option maxRecDepth 100000
set_option maxHeartbeats 40000000
theorem cellsLawsMail:Tryz.prog.cellsOf 159=12:=by kernel_rfl
theorem open_carrier_cells {H:Type} {enc:TypeId × Value→H} {W:World} {fuel:Nat} {c0 c1 c2 c3 c4 c5 c6 c7:Value} {x:DataW H × List MemPlace}
  (h:DataW.trod enc Tryz.prog W 0 (fun _=> true) true fuel 157 [c0,c1,c2,c3,c4,c5,c6,c7]=some x):
  ∃(a b f s:Int) (o:Option Addr) (cap:Nat) (l:List Int) (og:Option Addr) (cg:Nat) (g:List (Int × Int)) (pl st:Int),[c0,c1,c2,c3,c4,c5,c6,c7]=[.int .i64 a,.int .i64 b,.int .i64 f,.int .i64 s,.slice o l.length cap,.slice og g.length cg,.int .i64 pl,.int .i64 st]∧l.length≤maxLen∧Rd W o l∧isB l∧g.length≤maxLen∧RdG W og g:=by
 obtain ⟨y0,y1,y2,y3,n,_,_,h0,h1,h2,h3⟩:=trod_struct4 Tryz.underlying157 h
 simp [cellsInt,cellsLawsPacket,cellsLawsSegs] at h0 h1 h2 h3
 obtain ⟨a,b,f,s,o,cap,l,e,r⟩:=open_packet_cells h0
 obtain ⟨og,cg,g,eg,rg⟩:=open_segs_cells h1
 obtain ⟨pl,e2,_,_⟩:=DataW.trod_int Tryz.underlying3 h2
 obtain ⟨st,e3,_,_⟩:=DataW.trod_int Tryz.underlying3 h3
 simp at e eg e2 e3
 obtain ⟨rfl,rfl,rfl,rfl,rfl⟩:=e
 subst eg e2 e3
 exact ⟨a,b,f,s,o,cap,l,og,cg,g,pl,st,rfl,r.1,r.2.1,r.2.2,rg.1,rg.2⟩
theorem szMail_any (k a b f s:Int) (o og:Option Addr) (len cap lg cg:Nat) (pl st fa fp bk:Int) (n:Int) (w:World) (hl:len≤maxLen) (hg:lg≤maxLen) (h0:0≤n) (h1:n≤1048576):
  Calls Tryz.prog 87 #[mlv k a b f s (.slice o len cap) (.slice og lg cg) pl st fa fp bk,.int .i64 n] w fun e w'=> e=.returned (.int .i64 (if n - len - lg < 0 then -1 else n - len - lg))∧Below w.heap.size w w':=by
 have hB:Below w.heap.size w w:=Below.refl _ _
 have hs:=fun w=> szCarrier_any a b f s o og len cap lg cg pl st n w hl hg h0 h1
 by_cases h:n - len - lg < 0
 ·rw [if_pos h] at hs
  rw [if_pos h]
  go_enter Tryz.func87,Tryz.ntmps87
  go_wp2_with (first|(go_at_call 144;refine (hs _).mono ?_;rintro e w1a ⟨rfl,hba⟩;obtain ⟨hca,hfa⟩:=bcell hba;have hz0a:w.heap.size < w1a.heap.size:=(by have hz:=hba.size;(try simp at hz);omega);have hB:Below w.heap.size w w1a:=(by refine Below.trans ?_ (hba.mono (by have hs:=hB.size;(try simp) <;> omega));(repeat (first|with_reducible (first|exact hB|exact Below.refl _ _|refine Below.drew ?_|refine below_drewN ?_ _|refine Below.alloc ?_ ?_ _|refine Below.setCell ?_ ?_ _)|(focus (simp;first|done|omega))|omega)))))
  go_ret
  exact ⟨rfl,by (repeat (first|with_reducible (first|exact hB|exact Below.refl _ _|refine Below.drew ?_|refine below_drewN ?_ _|refine Below.alloc ?_ ?_ _|refine Below.setCell ?_ ?_ _)|(focus (simp;first|done|omega))|omega))⟩
 ·rw [if_neg h] at hs
  rw [if_neg h]
  generalize n - len - lg=q at *
  have hq:¬q < 0:=h
  go_enter Tryz.func87,Tryz.ntmps87
  go_wp2_with (first|(go_at_call 144;refine (hs _).mono ?_;rintro e w1a ⟨rfl,hba⟩;obtain ⟨hca,hfa⟩:=bcell hba;have hz0a:w.heap.size < w1a.heap.size:=(by have hz:=hba.size;(try simp at hz);omega);have hB:Below w.heap.size w w1a:=(by refine Below.trans ?_ (hba.mono (by have hs:=hB.size;(try simp) <;> omega));(repeat (first|with_reducible (first|exact hB|exact Below.refl _ _|refine Below.drew ?_|refine below_drewN ?_ _|refine Below.alloc ?_ ?_ _|refine Below.setCell ?_ ?_ _)|(focus (simp;first|done|omega))|omega)))))
  go_ret
  exact ⟨rfl,by (repeat (first|with_reducible (first|exact hB|exact Below.refl _ _|refine Below.drew ?_|refine below_drewN ?_ _|refine Below.alloc ?_ ?_ _|refine Below.setCell ?_ ?_ _)|(focus (simp;first|done|omega))|omega))⟩
theorem toMail_any (k a b f s:Int) (o og:Option Addr) (cap cg:Nat) (l:List Int) (g:List (Int × Int)) (pl st fa fp bk:Int) (w:World) (hR:Rd w o l) (hB8:isB l) (hlen:l.length≤1048576) (hG:RdG w og g) (hgl:g.length≤1048576):
  Calls Tryz.prog 97 #[mlv k a b f s (.slice o l.length cap) (.slice og g.length cg) pl st fa fp bk] w fun e w'=> ∃kl kg,e=.returned (mlv k a b f s (.slice (some ⟨kl,0,none⟩) l.length l.length) (.slice (some ⟨kg,0,none⟩) g.length g.length) pl st fa fp bk)∧ownB w' w.heap.size (.slice (some ⟨kl,0,none⟩) l.length l.length) l∧ownG w' w.heap.size (.slice (some ⟨kg,0,none⟩) g.length g.length) g∧Below w.heap.size w w':=by
 have hB:Below w.heap.size w w:=Below.refl _ _
 go_enter Tryz.func97,Tryz.ntmps97
 go_wp2_with (first|(go_at_call 156;refine (toCarrier_any a b f s o og cap cg l g pl st _ (hR.kept (by (repeat (first|with_reducible (first|exact hB|exact Below.refl _ _|refine Below.drew ?_|refine below_drewN ?_ _|refine Below.alloc ?_ ?_ _|refine Below.setCell ?_ ?_ _)|(focus (simp;first|done|omega))|omega)))) hB8 hlen (hG.kept (by (repeat (first|with_reducible (first|exact hB|exact Below.refl _ _|refine Below.drew ?_|refine below_drewN ?_ _|refine Below.alloc ?_ ?_ _|refine Below.setCell ?_ ?_ _)|(focus (simp;first|done|omega))|omega)))) hgl).mono ?_;rintro e w1a ⟨kl,kg,rfl,hown,howg,_,hba⟩;obtain ⟨hca,hfa⟩:=bcell hba;have hz0a:w.heap.size < w1a.heap.size:=(by have hz:=hba.size;(try simp at hz);omega);have hz1a:w.heap.size+1 < w1a.heap.size:=(by have hz:=hba.size;(try simp at hz);omega);have hz2a:w.heap.size+1+1 < w1a.heap.size:=(by have hz:=hba.size;(try simp at hz);omega);have hB:Below w.heap.size w w1a:=(by refine Below.trans ?_ (hba.mono (by have hs:=hB.size;(try simp) <;> omega));(repeat (first|with_reducible (first|exact hB|exact Below.refl _ _|refine Below.drew ?_|refine below_drewN ?_ _|refine Below.alloc ?_ ?_ _|refine Below.setCell ?_ ?_ _)|(focus (simp;first|done|omega))|omega))))|(go_at_call 30;refine (toFlow_any fa fp _).mono ?_;rintro e w1b ⟨rfl,hbb⟩;obtain ⟨hcb,hfb⟩:=bcell hbb;have hz0b:w.heap.size < w1b.heap.size:=(by have hz:=hbb.size;(try simp at hz);omega);have hz1b:w.heap.size+1 < w1b.heap.size:=(by have hz:=hbb.size;(try simp at hz);omega);have hz2b:w.heap.size+1+1 < w1b.heap.size:=(by have hz:=hbb.size;(try simp at hz);omega);have hB:Below w.heap.size w w1b:=(by refine Below.trans ?_ (hbb.mono (by have hs:=hB.size;(try simp) <;> omega));(repeat (first|with_reducible (first|exact hB|exact Below.refl _ _|refine Below.drew ?_|refine below_drewN ?_ _|refine Below.alloc ?_ ?_ _|refine Below.setCell ?_ ?_ _)|(focus (simp;first|done|omega))|omega)))))
 have h1:ownB w1a (w.heap.size+1+1+1) (.slice (some ⟨kl,0,none⟩) l.length l.length) l:=by simpa using hown
 have h2:ownG w1a (w.heap.size+1+1+1) (.slice (some ⟨kg,0,none⟩) g.length g.length) g:=by simpa using howg
 have h3:ownB w1b (w.heap.size+1+1+1) (.slice (some ⟨kl,0,none⟩) l.length l.length) l:=by
  refine own_kept ?_ hbb
  repeat (refine ownsRow_setCell_below ?_ (by simp <;> omega) _)
  exact h1
 have h4:ownG w1b (w.heap.size+1+1+1) (.slice (some ⟨kg,0,none⟩) g.length g.length) g:=by
  refine own_kept ?_ hbb
  repeat (refine ownsRow_setCell_below ?_ (by simp <;> omega) _)
  exact h2
 clear hown howg hba hbb h1 h2
 refine bodyPost_ret (v:=mlv k a b f s (.slice (some ⟨kl,0,none⟩) l.length l.length) (.slice (some ⟨kg,0,none⟩) g.length g.length) pl st fa fp bk) (by simp [results,Tryz.results97,go_sem,hcb,hca,hz0a,hz1a,hz2a,hz0b,hz1b,hz2b]) rfl ⟨kl,kg,rfl, ?_, ?_, ?_⟩
 ·refine own_mono (base:=w.heap.size+1+1+1) ?_ (by omega)
  repeat (refine ownsRow_setCell_below ?_ (by simp <;> omega) _)
  exact h3
 ·refine own_mono (base:=w.heap.size+1+1+1) ?_ (by omega)
  repeat (refine ownsRow_setCell_below ?_ (by simp <;> omega) _)
  exact h4
 ·(repeat (first|with_reducible (first|exact hB|exact Below.refl _ _|refine Below.drew ?_|refine below_drewN ?_ _|refine Below.alloc ?_ ?_ _|refine Below.setCell ?_ ?_ _)|(focus (simp;first|done|omega))|omega))
theorem eqMail_same (k a b f s:Int) (o1 o2 p1 p2:Option Addr) (c1 c2 d1 d2:Nat) (l:List Int) (g:List (Int × Int)) (pl st fa fp bk:Int) (w:World) (h1:Rd w o1 l) (h2:Rd w o2 l) (hl:l.length≤1048576) (g1:RdG w p1 g) (g2:RdG w p2 g) (hg:g.length≤1048576):
  Calls Tryz.prog 109 #[mlv k a b f s (.slice o1 l.length c1) (.slice p1 g.length d1) pl st fa fp bk,mlv k a b f s (.slice o2 l.length c2) (.slice p2 g.length d2) pl st fa fp bk] w fun e w'=> e=.returned (.bool true)∧Below w.heap.size w w':=by
 have hB:Below w.heap.size w w:=Below.refl _ _
 go_enter Tryz.func109,Tryz.ntmps109
 go_wp2_with (first|(go_at_call 168;refine (eqCarrier_same a b f s o1 o2 p1 p2 c1 c2 d1 d2 l g pl st _ (h1.kept (by (repeat (first|with_reducible (first|exact hB|exact Below.refl _ _|refine Below.drew ?_|refine below_drewN ?_ _|refine Below.alloc ?_ ?_ _|refine Below.setCell ?_ ?_ _)|(focus (simp;first|done|omega))|omega)))) (h2.kept (by (repeat (first|with_reducible (first|exact hB|exact Below.refl _ _|refine Below.drew ?_|refine below_drewN ?_ _|refine Below.alloc ?_ ?_ _|refine Below.setCell ?_ ?_ _)|(focus (simp;first|done|omega))|omega)))) hl (g1.kept (by (repeat (first|with_reducible (first|exact hB|exact Below.refl _ _|refine Below.drew ?_|refine below_drewN ?_ _|refine Below.alloc ?_ ?_ _|refine Below.setCell ?_ ?_ _)|(focus (simp;first|done|omega))|omega)))) (g2.kept (by (repeat (first|with_reducible (first|exact hB|exact Below.refl _ _|refine Below.drew ?_|refine below_drewN ?_ _|refine Below.alloc ?_ ?_ _|refine Below.setCell ?_ ?_ _)|(focus (simp;first|done|omega))|omega)))) hg).mono ?_;rintro e w1a ⟨rfl,hba⟩;obtain ⟨hca,hfa⟩:=bcell hba;have hz0a:w.heap.size < w1a.heap.size:=(by have hz:=hba.size;(try simp at hz);omega);have hz1a:w.heap.size+1 < w1a.heap.size:=(by have hz:=hba.size;(try simp at hz);omega);have hB:Below w.heap.size w w1a:=(by refine Below.trans ?_ (hba.mono (by have hs:=hB.size;(try simp) <;> omega));(repeat (first|with_reducible (first|exact hB|exact Below.refl _ _|refine Below.drew ?_|refine below_drewN ?_ _|refine Below.alloc ?_ ?_ _|refine Below.setCell ?_ ?_ _)|(focus (simp;first|done|omega))|omega))))|(go_at_call 169;refine (eqFlow_same fa fp _).mono ?_;rintro e w1b ⟨rfl,hbb⟩;obtain ⟨hcb,hfb⟩:=bcell hbb;have hz0b:w.heap.size < w1b.heap.size:=(by have hz:=hbb.size;(try simp at hz);omega);have hz1b:w.heap.size+1 < w1b.heap.size:=(by have hz:=hbb.size;(try simp at hz);omega);have hB:Below w.heap.size w w1b:=(by refine Below.trans ?_ (hbb.mono (by have hs:=hB.size;(try simp) <;> omega));(repeat (first|with_reducible (first|exact hB|exact Below.refl _ _|refine Below.drew ?_|refine below_drewN ?_ _|refine Below.alloc ?_ ?_ _|refine Below.setCell ?_ ?_ _)|(focus (simp;first|done|omega))|omega)))))
 go_ret
 exact ⟨rfl,by (repeat (first|with_reducible (first|exact hB|exact Below.refl _ _|refine Below.drew ?_|refine below_drewN ?_ _|refine Below.alloc ?_ ?_ _|refine Below.setCell ?_ ?_ _)|(focus (simp;first|done|omega))|omega))⟩
structure Mm where
 k:Int
 c:Cm
 fa:Int
 fp:Int
 bk:Int
def RdMm (C:Nat) (w:World) (v:Value) (m:Mm):Prop:=∃vl vg,v=mlv m.k m.c.a m.c.b m.c.f m.c.s vl vg m.c.pl m.c.st m.fa m.fp m.bk∧RdV layB C w vl m.c.l∧RdV layG C w vg m.c.g
def InMm (lo hi:Nat) (w:World) (v:Value) (m:Mm):Prop:=∃vl vg,v=mlv m.k m.c.a m.c.b m.c.f m.c.s vl vg m.c.pl m.c.st m.fa m.fp m.bk∧InB lo hi w vl m.c.l∧InG lo hi w vg m.c.g
theorem RdMm.kept {C D:Nat} {w w':World} {v:Value} {m:Mm} (h:RdMm C w v m) (hb:Below D w w') (hc:C≤D):RdMm C w' v m:=by
 obtain ⟨vl,vg,e,h1,h2⟩:=h
 exact ⟨vl,vg,e,h1.kept hb hc,h2.kept hb hc⟩
theorem RdMm.le {C D:Nat} {w:World} {v:Value} {m:Mm} (h:RdMm C w v m) (hc:C≤D):RdMm D w v m:=by
 obtain ⟨vl,vg,e,h1,h2⟩:=h
 exact ⟨vl,vg,e,h1.le hc,h2.le hc⟩
theorem toMail_sh (v:Value) (m:Mm) (w:World) (hR:RdMm w.heap.size w v m) (hf:fitCm m.c):
  Calls Tryz.prog 97 #[v] w fun e w'=> ∃v',e=.returned v'∧InMm w.heap.size w'.heap.size w' v' m∧Below w.heap.size w w':=by
 obtain ⟨vl,vg,rfl,⟨o,c,rfl,r⟩,⟨og,cg,rfl,rg⟩⟩:=hR
 have h1:=hf.1
 refine (toMail_any m.k m.c.a m.c.b m.c.f m.c.s o og c cg m.c.l m.c.g m.c.pl m.c.st m.fa m.fp m.bk w (RdB_rd.1 r) hf.2 (by omega) (RdG_rd.1 rg) (by omega)).mono ?_
 rintro e w' ⟨kl,kg,rfl,h1,h2,hb⟩
 exact ⟨_,rfl,⟨_,_,rfl,InB.of h1,InG.of h2⟩,hb⟩
theorem eqMail_sh (v1 v2:Value) (m:Mm) (w:World) (h1:RdMm w.heap.size w v1 m) (h2:RdMm w.heap.size w v2 m) (hl:m.c.l.length≤1048576) (hg:m.c.g.length≤1048576):
  Calls Tryz.prog 109 #[v1,v2] w fun e w'=> e=.returned (.bool true)∧Below w.heap.size w w':=by
 obtain ⟨vl,vg,rfl,⟨o,c,rfl,r⟩,⟨og,cg,rfl,rg⟩⟩:=h1
 obtain ⟨vl2,vg2,rfl,⟨o2,c2,rfl,r2⟩,⟨og2,cg2,rfl,rg2⟩⟩:=h2
 exact eqMail_same m.k m.c.a m.c.b m.c.f m.c.s o o2 og og2 c c2 cg cg2 m.c.l m.c.g m.c.pl m.c.st m.fa m.fp m.bk w (RdB_rd.1 r) (RdB_rd.1 r2) hl (RdG_rd.1 rg) (RdG_rd.1 rg2) hg
theorem specMailOk_sh (v:Value) (m:Mm) (w:World) (hR:RdMm w.heap.size w v m) (hf:fitCm m.c):
  Calls Tryz.prog 43 #[v] w fun e w'=> e=.returned (.bool (mailB m.k m.c.a m.c.b m.c.f m.c.s m.c.l.length m.c.g m.c.pl m.c.st m.fa m.fp m.bk))∧Below w.heap.size w w':=by
 obtain ⟨vl,vg,rfl,⟨o,c,rfl,r⟩,⟨og,cg,rfl,rg⟩⟩:=hR
 have h1:=hf.1
 exact specMailOk_any _ _ _ _ _ o og _ c cg m.c.g _ _ _ _ _ w (by unfold maxLen;omega) (by unfold maxLen;omega) (RdG_rd.1 rg)
theorem implMailOk_sh (v:Value) (m:Mm) (w:World) (hR:RdMm w.heap.size w v m) (hf:fitCm m.c):
  Calls Tryz.prog 205 #[v] w fun e w'=> e=.returned (.bool (mailB m.k m.c.a m.c.b m.c.f m.c.s m.c.l.length m.c.g m.c.pl m.c.st m.fa m.fp m.bk))∧Below w.heap.size w w':=by
 obtain ⟨vl,vg,rfl,⟨o,c,rfl,r⟩,⟨og,cg,rfl,rg⟩⟩:=hR
 have h1:=hf.1
 exact implMailOk_any _ _ _ _ _ o og _ c cg m.c.g _ _ _ _ _ w (by unfold maxLen;omega) (by unfold maxLen;omega) (RdG_rd.1 rg)
end Go.Proofs.YtgplppfbinfelaaGreat
