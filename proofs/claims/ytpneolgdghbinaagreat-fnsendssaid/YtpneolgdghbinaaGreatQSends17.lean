/- The library's Push over the scoreboard; the scoreboard's Pop. -/
import Derived.WalkSmall
import Derived.Test.YtpneolgdghbinaaGreatQSends16
namespace Go.Proofs.YtpneolgdghbinaaGreat
open Go.ChangeShapes Go.WideShapes Go.ChangeAt Go.RowKit Go.Joins
set_option linter.unusedVariables false
set_option linter.unusedSimpArgs false
set_option maxRecDepth 100000
set_option maxHeartbeats 40000000
theorem Q1x {l:List Sc} {x:Sc} {i:Nat} (h:i < l.length):(l++[x]).getD i (0,0)=l.getD i (0,0):=by
 rw [List.getD_eq_getElem?_getD,List.getElem?_append_left h,←List.getD_eq_getElem?_getD]
theorem Q2U {l:List Sc} {x:Sc}:(l++[x]).getD l.length (0,0)=x:=by
 rw [List.getD_eq_getElem?_getD,List.getElem?_append_right (Kaq _),Nat.sub_self];rfl
theorem QfS {l:List Sc} {x:Sc} (h:Q3M l l.length):Qck (l++[x]) (l++[x]).length l.length:=by
 have hl:(l++[x]).length=l.length+1:=by simp
 rw [hl]
 refine ⟨fun i h1 h2 h3=> ?_,fun h0 i h1 h2 h3=> by omega⟩
 have:=h i h1 (by omega)
 unfold fr at *
 rw [Q1x (by omega),Q1x (by omega)]
 exact this
theorem Qfs {l:List Sc} {x:Sc} (h:okD l) (hx:okS x):okD (l++[x]):=fun i hi=> by
 have hl:(l++[x]).length=l.length+1:=by simp
 rcases Nat.lt_or_ge i l.length with h1|h1
 ·rw [Q1x h1];exact h i h1
 ·rw [show i=l.length by omega,Q2U];exact hx
theorem Qdv (k:Nat) (v:Value) (l:List Sc) (i g:Int) (w:World) (hb:BrdV k v w l) (hok:okD l) (hx:okS (i,g)) (hh:Q3M l l.length) (hlen:l.length≤1000000):
  Calls Tryz.prog 152 #[.iface 262 (.pointer (some ⟨k,0,none⟩)),.iface 266 (.agg #[.int .i64 i,.int .i64 g])] w fun e w'=> e=.returned (.tuple #[])∧∃g' c l',Brd k g' c w' l'∧Q3M l' l'.length∧Same (l++[(i,g)]) l' (l.length+1)∧okD l'∧Below k w w':=by
 have eP:∀args w,(callFunc 217 args).run Tryz.prog w=.ok (.enter 217 args) w:=enters_of Tryz.func217 (by kernel_rfl) rfl
 have eN:∀args w,(callFunc 214 args).run Tryz.prog w=.ok (.enter 214 args) w:=enters_of Tryz.func214 (by kernel_rfl) rfl
 have mP:=fun w=> Q7F (k:=k) (w:=w) QeH
 have hl:(l++[(i,g)]).length=l.length+1:=by simp
 go_enter Tryz.func152,Tryz.ntmps152
 go_wp2_with fail
 refine (QbZ k v l i g w hb hlen).mono ?_
 rintro e w1 ⟨rfl,g1,c1,hb1,hw1⟩
 have mN:=Q0N Q8J hb1.cell
 rw [hl] at mN
 go_wp2_with (go_at_call 214;refine (Q3c _ _ _ _).mono ?_;rintro e w2 ⟨rfl,rfl⟩)
 have hjj:(((l.length+1:Nat):Int) - 1)=(l.length:Int):=by omega
 refine (Qhf k g1 c1 (l++[(i,g)]) l.length w1 hb1 (by omega) (Qfs hok hx) (QfS hh) (by omega)).mono ?_
 rintro e w3 ⟨rfl,l3,hb3,hh3,hs3,ho3,hg3⟩
 have hge:=hb1.ge;have hlt:=hb1.lt
 have HB:Hid (Below k w w3):=hw1.trans ((Below.refl k w1).grown hg3 (by omega) (fun b e=> by cases e;omega))
 have HH:Hid (Q3M l3 l3.length):=by unfold Hid;rw [hs3.1];exact hh3
 have HS:Hid (Same (l++[(i,g)]) l3 (l.length+1)):=by unfold Hid;rw [←hl];exact hs3
 clear mN mP hh3 hs3 hw1 hg3
 go_wp2
 go_end0
 exact ⟨rfl,g1,c1,l3,hb3,HH.out,HS.out,ho3,HB.out⟩
theorem Qew (k g c:Nat) (l:List Sc) (x y:Int) (w:World) (hb:Brd k g c w (l++[(x,y)])) (hlen:l.length≤1000000):
  Calls Tryz.prog 216 #[.pointer (some ⟨k,0,none⟩)] w fun e w'=> e=.returned (.iface 266 (.agg #[.int .i64 x,.int .i64 y]))∧Brd k g c w' l∧Below k w w':=by
 have hl:(l++[(x,y)]).length=l.length+1:=by simp
 have cb:=hb.cell;have fb:=hb.v.frozen;have hk:=hb.v.lt
 rw [hl] at cb
 have hR:=hb.row.rd
 rcases hR with hR|⟨b,off,e0,hbl,hcell⟩
 ·simp at hR
 cases e0
 have hc:=RdL.sc hcell l.length (by omega)
 rw [Q2U] at hc
 simp only [Nat.zero_add] at hc
 obtain ⟨c0,c1⟩:=hc;clear hcell
 have hcap:l.length+1≤c:=by
  rcases hb.row.2 with ⟨h',_⟩|⟨g',cap',cur,h',_,_,hn,_⟩
  ·simp at h'
  ·simp only [Value.slice.injEq] at h'
   rw [←h'.2.2] at hn;omega
 have hrow:w.ownsRow (k+1) 266 2 (.slice (some ⟨g,0,none⟩) l.length c) l.length (l.flatMap Qb1.cs):=by
  have h1:=hb.row
  unfold QcA ownL at h1
  rw [hl,List.flatMap_append] at h1
  exact ownsRow_pop (Q0s Qb1 l) h1
 have HB:=Q02 hb;have HR:=Q02 hrow;clear hb hrow
 go_enter Tryz.func216,Tryz.ntmps216
 go_wp2
 go_ret
 refine ⟨rfl,⟨?_, ?_⟩, ?_⟩
 ·exact (((Below.refl w.heap.size _).alloc (by simp) _).block k hk).trans (Qb8 HB.out.box)
 ·exact (ownsRow_setCell_below HR.out (a:=⟨k,0,none⟩) (Nat.lt_succ_self k) _).alloc _
 ·exact ((Below.refl k w).setCell (p:=⟨k,0,none⟩) (Kaq _) _).alloc (by simp;omega) _
def QhO (l l':List Sc):Prop:=l'.length+1=l.length∧∀z,(∃i,i < l'.length∧l'.getD i (0,0)=z)↔(∃i,1≤i∧i < l.length∧l.getD i (0,0)=z)
theorem Qcc {l:List Sc} {n:Nat} (h:Q3M l (n+1)) (hn:n+1=l.length):Q5A (Q2n l 0 n) n 0:=by
 have F:∀m,fr (Q2n l 0 n) m=if m=n then fr l 0 else if m=0 then fr l n else fr l m:=fun m=> Q86 l 0 n m (by omega) (by omega)
 refine ⟨fun c h1 h2 h3=> ?_,fun h0=> by omega⟩
 rw [F,F,if_neg (by omega),if_neg h3,if_neg (by omega),if_neg (by omega)]
 exact h c h1 (by omega)
theorem Q40 {l:List Sc} {n i:Nat} (h:i < n):(l.take n).getD i (0,0)=l.getD i (0,0):=by
 simp [List.getD_eq_getElem?_getD,List.getElem?_take,h]
theorem Qfv (k g c:Nat) (l:List Sc) (n:Nat) (w:World) (hb:Brd k g c w l) (hn:n+1=l.length) (hok:okD l) (hh:Q3M l l.length) (hlen:l.length≤1000000):
  Calls Tryz.prog 154 #[.iface 262 (.pointer (some ⟨k,0,none⟩))] w fun e w'=> (∃v,e=.returned v)∧∃l',Brd k g c w' l'∧Q3M l' l'.length∧QhO l l'∧okD l'∧Below k w w':=by
 have eP:∀args w,(callFunc 216 args).run Tryz.prog w=.ok (.enter 216 args) w:=enters_of Tryz.func216 (by kernel_rfl) rfl
 have eN:∀args w,(callFunc 214 args).run Tryz.prog w=.ok (.enter 214 args) w:=enters_of Tryz.func214 (by kernel_rfl) rfl
 have eS:∀args w,(callFunc 218 args).run Tryz.prog w=.ok (.enter 218 args) w:=enters_of Tryz.func218 (by kernel_rfl) rfl
 have mP:=fun w=> Q7F (k:=k) (w:=w) Qh4
 have mN:=Q0N Q8J hb.cell;have mS:=Q0N Q53 hb.cell
 have hni:(l.length:Int) - 1=(n:Int):=by omega
 have HN:=Q02 hn;have hge:=hb.ge;have hlt:=hb.lt;clear hn
 go_enter Tryz.func154,Tryz.ntmps154
 go_wp2_with (first|(go_at_call 214;refine (Q3c _ _ _ _).mono ?_;rintro e w2 ⟨rfl,rfl⟩))
 have hsw:=Q3t (k+1) g c l 0 n w hb.row (by have:=HN.out;omega) (by have:=HN.out;omega) (by omega)
 refine hsw.mono ?_
 rintro e w1 ⟨rfl,ho1,hg1⟩
 have hb1:=hb.swap ho1 hg1
 have hB1:Below k w w1:=(Below.refl k w).grown hg1 (by omega) (fun b e=> by cases e;omega)
 have hlt1:=hb1.lt
 have hdn:=Qf8 k g c (Q2n l 0 n) n w1 hb1 (by rw [Q0R];have:=HN.out;omega) (Q4V 0 n (by have:=HN.out;omega) (by have:=HN.out;omega) hok) (Qcc (HN.out.symm ▸ hh) HN.out) (by rw [Q0R];omega)
 clear mN mS hsw ho1 hg1 hb
 go_wp2_with fail
 refine hdn.mono ?_
 rintro e w2 ⟨⟨r,rfl⟩,l2,hb2,hh2,hs2,ho2,hg2⟩
 have hB2:Below k w w2:=hB1.trans ((Below.refl k w1).grown hg2 (by omega) (fun b e=> by cases e;omega))
 have hl2:l2.length=n+1:=by rw [hs2.1,Q0R];exact HN.out.symm
 have e2:l2=l2.take n++[((l2.getD n (0,0)).1,(l2.getD n (0,0)).2)]:=by
  have:=Q1p Qb1 l2 n (by omega)
  rw [List.take_of_length_le (by omega)] at this
  exact this
 have hln:(l2.take n).length=n:=by simp;omega
 have hpp:=Qew k g c (l2.take n) (l2.getD n (0,0)).1 (l2.getD n (0,0)).2 w2 (e2 ▸ hb2) (by omega)
 have HH:Hid (Q3M (l2.take n) (l2.take n).length):=by
  unfold Hid;rw [hln];intro i h1 h2
  have:=hh2 i h1 h2
  unfold fr at *
  rw [Q40 (by omega),Q40 h2];exact this
 have HO:Hid (okD (l2.take n)):=fun i hi=> by rw [Q40 (by omega)];exact ho2 i (by omega)
 have HR:Hid (QhO l (l2.take n)):=by
  refine ⟨by rw [hln];exact HN.out,fun z=> ?_⟩
  rw [hln]
  have h1:(∃i,i < n∧(l2.take n).getD i (0,0)=z)↔(∃i,i < n∧l2.getD i (0,0)=z):=
   ⟨fun ⟨i,hi,e⟩=> ⟨i,hi,by rw [←Q40 hi];exact e⟩,fun ⟨i,hi,e⟩=> ⟨i,hi,by rw [Q40 hi];exact e⟩⟩
  rw [h1,hs2.2.1 z]
  have hnn:=HN.out
  constructor
  ·rintro ⟨i,hi,e⟩
   rw [Q1t l 0 n i (by omega) (by omega),if_neg (by omega)] at e
   by_cases h0:i=0
   ·rw [if_pos h0] at e
    subst h0
    exact ⟨n,by omega,by omega,e⟩
   ·rw [if_neg h0] at e
    exact ⟨i,by omega,by omega,e⟩
  ·rintro ⟨i,hi1,hi2,e⟩
   by_cases h0:i=n
   ·refine ⟨0,by omega, ?_⟩
    rw [Q1t l 0 n 0 (by omega) (by omega),if_neg (by omega),if_pos rfl,←h0];exact e
   ·refine ⟨i,by omega, ?_⟩
    rw [Q1t l 0 n i (by omega) (by omega),if_neg h0,if_neg (by omega)];exact e
 clear hdn hb1 hb2 hh2 hs2 ho2 hg2 e2 hB1
 go_wp2_with fail
 refine hpp.mono ?_
 rintro e w3 ⟨rfl,hb3,hB3⟩
 clear mP hpp
 go_wp2
 go_ret
 exact ⟨⟨_,rfl⟩,l2.take n,hb3,HH.out,HR.out,HO.out,hB2.trans hB3⟩
end Go.Proofs.YtpneolgdghbinaaGreat
