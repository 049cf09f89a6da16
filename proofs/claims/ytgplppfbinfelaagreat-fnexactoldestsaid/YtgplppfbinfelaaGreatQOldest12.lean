/- The library's Push over the scoreboard; the scoreboard's Pop. -/
import Derived.WalkSmall
import Derived.Test.YtgplppfbinfelaaGreatQOldest11
namespace Go.Proofs.YtgplppfbinfelaaGreat
open Go.ChangeShapes Go.WideShapes Go.ChangeAt Go.RowKit Go.Joins
set_option linter.unusedVariables false
set_option linter.unusedSimpArgs false
set_option maxRecDepth 100000
set_option maxHeartbeats 40000000
theorem getD_snoc_lt {l:List Sc} {x:Sc} {i:Nat} (h:i < l.length):(l++[x]).getD i (0,0)=l.getD i (0,0):=by
 rw [List.getD_eq_getElem?_getD,List.getElem?_append_left h,←List.getD_eq_getElem?_getD]
theorem getD_snoc_eq {l:List Sc} {x:Sc}:(l++[x]).getD l.length (0,0)=x:=by
 rw [List.getD_eq_getElem?_getD,List.getElem?_append_right (Nat.le_refl _),Nat.sub_self];rfl
theorem up_begin {l:List Sc} {x:Sc} (h:HeapP l l.length):UpInv (l++[x]) (l++[x]).length l.length:=by
 have hl:(l++[x]).length=l.length+1:=by simp
 rw [hl]
 refine ⟨fun i h1 h2 h3=> ?_,fun h0 i h1 h2 h3=> by omega⟩
 have:=h i h1 (by omega)
 unfold fr at *
 rw [getD_snoc_lt (by omega),getD_snoc_lt (by omega)]
 exact this
theorem okD_snoc {l:List Sc} {x:Sc} (h:okD l) (hx:okS x):okD (l++[x]):=fun i hi=> by
 have hl:(l++[x]).length=l.length+1:=by simp
 rcases Nat.lt_or_ge i l.length with h1|h1
 ·rw [getD_snoc_lt h1];exact h i h1
 ·rw [show i=l.length by omega,getD_snoc_eq];exact hx
theorem pushH_any (k:Nat) (v:Value) (l:List Sc) (i g:Int) (w:World) (hb:BrdV k v w l) (hok:okD l) (hx:okS (i,g)) (hh:HeapP l l.length) (hlen:l.length≤1000000):
  Calls Tryz.prog 268 #[.iface 357 (.pointer (some ⟨k,0,none⟩)),.iface 362 (.agg #[.int .i64 i,.int .i64 g])] w fun e w'=> e=.returned (.tuple #[])∧∃g' c l',Brd k g' c w' l'∧HeapP l' l'.length∧Same (l++[(i,g)]) l' (l.length+1)∧okD l'∧Below k w w':=by
 have eP:∀args w,(callFunc 298 args).run Tryz.prog w=.ok (.enter 298 args) w:=enters_of Tryz.func298 (by kernel_rfl) rfl
 have eN:∀args w,(callFunc 295 args).run Tryz.prog w=.ok (.enter 295 args) w:=enters_of Tryz.func295 (by kernel_rfl) rfl
 have mP:=fun w=> finds_ptr' (k:=k) (w:=w) methPush
 have hl:(l++[(i,g)]).length=l.length+1:=by simp
 go_enter Tryz.func268,Tryz.ntmps268
 go_wp2_with fail
 refine (sbPush_any k v l i g w hb hlen).mono ?_
 rintro e w1 ⟨rfl,g1,c1,hb1,hw1⟩
 have mN:=finds_val' methLen hb1.cell
 rw [hl] at mN
 go_wp2_with (go_at_call 295;refine (sbLen_any _ _ _ _).mono ?_;rintro e w2 ⟨rfl,rfl⟩)
 have hjj:(((l.length+1:Nat):Int) - 1)=(l.length:Int):=by omega
 refine (up_any k g1 c1 (l++[(i,g)]) l.length w1 hb1 (by omega) (okD_snoc hok hx) (up_begin hh) (by omega)).mono ?_
 rintro e w3 ⟨rfl,l3,hb3,hh3,hs3,ho3,hg3⟩
 have hge:=hb1.ge
 have hlt:=hb1.lt
 have HB:Hid (Below k w w3):=hw1.trans ((Below.refl k w1).grown hg3 (by omega) (fun b e=> by cases e;omega))
 have HH:Hid (HeapP l3 l3.length):=by unfold Hid;rw [hs3.1];exact hh3
 have HS:Hid (Same (l++[(i,g)]) l3 (l.length+1)):=by unfold Hid;rw [←hl];exact hs3
 clear mN mP hh3 hs3 hw1 hg3
 go_wp2
 go_end0
 exact ⟨rfl,g1,c1,l3,hb3,HH.out,HS.out,ho3,HB.out⟩
theorem sbPop_any (k g c:Nat) (l:List Sc) (x y:Int) (w:World) (hb:Brd k g c w (l++[(x,y)])) (hlen:l.length≤1000000):
  Calls Tryz.prog 297 #[.pointer (some ⟨k,0,none⟩)] w fun e w'=> e=.returned (.iface 362 (.agg #[.int .i64 x,.int .i64 y]))∧Brd k g c w' l∧Below k w w':=by
 have hl:(l++[(x,y)]).length=l.length+1:=by simp
 have cb:=hb.cell
 have fb:=hb.v.frozen
 have hk:=hb.v.lt
 rw [hl] at cb
 have hR:=hb.row.rd
 rcases hR with hR|⟨b,off,e0,hbl,hcell⟩
 ·simp at hR
 cases e0
 have hc:=RdL.sc hcell l.length (by omega)
 rw [getD_snoc_eq] at hc
 simp only [Nat.zero_add] at hc
 obtain ⟨c0,c1⟩:=hc
 clear hcell
 have hcap:l.length+1≤c:=by
  rcases hb.row.2 with ⟨h',_⟩|⟨g',cap',cur,h',_,_,hn,_⟩
  ·simp at h'
  ·simp only [Value.slice.injEq] at h'
   rw [←h'.2.2] at hn;omega
 have hrow:w.ownsRow (k+1) 362 2 (.slice (some ⟨g,0,none⟩) l.length c) l.length (l.flatMap layD.cs):=by
  have h1:=hb.row
  unfold ownD ownL at h1
  rw [hl,List.flatMap_append] at h1
  exact ownsRow_pop (flat_length layD l) h1
 have HB:=hide hb
 have HR:=hide hrow
 clear hb hrow
 go_enter Tryz.func297,Tryz.ntmps297
 go_wp2
 go_ret
 refine ⟨rfl,⟨?_, ?_⟩, ?_⟩
 ·exact (((Below.refl w.heap.size _).alloc (by simp) _).block k hk).trans (box_setH HB.out.box)
 ·exact (ownsRow_setCell_below HR.out (a:=⟨k,0,none⟩) (Nat.lt_succ_self k) _).alloc _
 ·exact ((Below.refl k w).setCell (p:=⟨k,0,none⟩) (Nat.le_refl _) _).alloc (by simp;omega) _
def Rest (l l':List Sc):Prop:=l'.length+1=l.length∧∀z,(∃i,i < l'.length∧l'.getD i (0,0)=z)↔(∃i,1≤i∧i < l.length∧l.getD i (0,0)=z)
theorem down_begin {l:List Sc} {n:Nat} (h:HeapP l (n+1)) (hn:n+1=l.length):DownInv (swapD l 0 n) n 0:=by
 have F:∀m,fr (swapD l 0 n) m=if m=n then fr l 0 else if m=0 then fr l n else fr l m:=fun m=> swapD_fr l 0 n m (by omega) (by omega)
 refine ⟨fun c h1 h2 h3=> ?_,fun h0=> by omega⟩
 rw [F,F,if_neg (by omega),if_neg h3,if_neg (by omega),if_neg (by omega)]
 exact h c h1 (by omega)
theorem getD_take {l:List Sc} {n i:Nat} (h:i < n):(l.take n).getD i (0,0)=l.getD i (0,0):=by
 simp [List.getD_eq_getElem?_getD,List.getElem?_take,h]
theorem popH_any (k g c:Nat) (l:List Sc) (n:Nat) (w:World) (hb:Brd k g c w l) (hn:n+1=l.length) (hok:okD l) (hh:HeapP l l.length) (hlen:l.length≤1000000):
  Calls Tryz.prog 267 #[.iface 357 (.pointer (some ⟨k,0,none⟩))] w fun e w'=> (∃v,e=.returned v)∧∃l',Brd k g c w' l'∧HeapP l' l'.length∧Rest l l'∧okD l'∧Below k w w':=by
 have eP:∀args w,(callFunc 297 args).run Tryz.prog w=.ok (.enter 297 args) w:=enters_of Tryz.func297 (by kernel_rfl) rfl
 have eN:∀args w,(callFunc 295 args).run Tryz.prog w=.ok (.enter 295 args) w:=enters_of Tryz.func295 (by kernel_rfl) rfl
 have eS:∀args w,(callFunc 299 args).run Tryz.prog w=.ok (.enter 299 args) w:=enters_of Tryz.func299 (by kernel_rfl) rfl
 have mP:=fun w=> finds_ptr' (k:=k) (w:=w) methPop
 have mN:=finds_val' methLen hb.cell
 have mS:=finds_val' methSwap hb.cell
 have hni:(l.length:Int) - 1=(n:Int):=by omega
 have HN:=hide hn
 have hge:=hb.ge
 have hlt:=hb.lt
 clear hn
 go_enter Tryz.func267,Tryz.ntmps267
 go_wp2_with (first|(go_at_call 295;refine (sbLen_any _ _ _ _).mono ?_;rintro e w2 ⟨rfl,rfl⟩))
 have hsw:=sbSwap_any (k+1) g c l 0 n w hb.row (by have:=HN.out;omega) (by have:=HN.out;omega) (by omega)
 refine hsw.mono ?_
 rintro e w1 ⟨rfl,ho1,hg1⟩
 have hb1:=hb.swap ho1 hg1
 have hB1:Below k w w1:=(Below.refl k w).grown hg1 (by omega) (fun b e=> by cases e;omega)
 have hlt1:=hb1.lt
 have hdn:=down_any k g c (swapD l 0 n) n w1 hb1 (by rw [swapD_length];have:=HN.out;omega) (swapD_ok 0 n (by have:=HN.out;omega) (by have:=HN.out;omega) hok) (down_begin (HN.out.symm ▸ hh) HN.out) (by rw [swapD_length];omega)
 clear mN mS hsw ho1 hg1 hb
 go_wp2_with fail
 refine hdn.mono ?_
 rintro e w2 ⟨⟨r,rfl⟩,l2,hb2,hh2,hs2,ho2,hg2⟩
 have hB2:Below k w w2:=hB1.trans ((Below.refl k w1).grown hg2 (by omega) (fun b e=> by cases e;omega))
 have hl2:l2.length=n+1:=by rw [hs2.1,swapD_length];exact HN.out.symm
 have e2:l2=l2.take n++[((l2.getD n (0,0)).1,(l2.getD n (0,0)).2)]:=by
  have:=takeL_succ layD l2 n (by omega)
  rw [List.take_of_length_le (by omega)] at this
  exact this
 have hln:(l2.take n).length=n:=by simp;omega
 have hpp:=sbPop_any k g c (l2.take n) (l2.getD n (0,0)).1 (l2.getD n (0,0)).2 w2 (e2 ▸ hb2) (by omega)
 have HH:Hid (HeapP (l2.take n) (l2.take n).length):=by
  unfold Hid;rw [hln];intro i h1 h2
  have:=hh2 i h1 h2
  unfold fr at *
  rw [getD_take (by omega),getD_take h2];exact this
 have HO:Hid (okD (l2.take n)):=fun i hi=> by rw [getD_take (by omega)];exact ho2 i (by omega)
 have HR:Hid (Rest l (l2.take n)):=by
  refine ⟨by rw [hln];exact HN.out,fun z=> ?_⟩
  rw [hln]
  have h1:(∃i,i < n∧(l2.take n).getD i (0,0)=z)↔(∃i,i < n∧l2.getD i (0,0)=z):=
   ⟨fun ⟨i,hi,e⟩=> ⟨i,hi,by rw [←getD_take hi];exact e⟩,fun ⟨i,hi,e⟩=> ⟨i,hi,by rw [getD_take hi];exact e⟩⟩
  rw [h1,hs2.2.1 z]
  have hnn:=HN.out
  constructor
  ·rintro ⟨i,hi,e⟩
   rw [swapD_get l 0 n i (by omega) (by omega),if_neg (by omega)] at e
   by_cases h0:i=0
   ·rw [if_pos h0] at e
    subst h0
    exact ⟨n,by omega,by omega,e⟩
   ·rw [if_neg h0] at e
    exact ⟨i,by omega,by omega,e⟩
  ·rintro ⟨i,hi1,hi2,e⟩
   by_cases h0:i=n
   ·refine ⟨0,by omega, ?_⟩
    rw [swapD_get l 0 n 0 (by omega) (by omega),if_neg (by omega),if_pos rfl,←h0];exact e
   ·refine ⟨i,by omega, ?_⟩
    rw [swapD_get l 0 n i (by omega) (by omega),if_neg h0,if_neg (by omega)];exact e
 clear hdn hb1 hb2 hh2 hs2 ho2 hg2 e2 hB1
 go_wp2_with fail
 refine hpp.mono ?_
 rintro e w3 ⟨rfl,hb3,hB3⟩
 clear mP hpp
 go_wp2
 go_ret
 exact ⟨⟨_,rfl⟩,l2.take n,hb3,HH.out,HR.out,HO.out,hB2.trans hB3⟩
end Go.Proofs.YtgplppfbinfelaaGreat
