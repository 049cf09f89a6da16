/- Several texts in one: SHdI6, SHdI7. -/
import Derived.Test.YtljogkoaaidlcaaQHandL15
namespace Go.Proofs.Ytljogkoaaidlcaa
open Go.ChangeShapes Go.WideShapes Go.ChangeAt Go.RowKit Go.Joins
set_option linter.unusedVariables false
set_option linter.unusedSimpArgs false
set_option maxRecDepth 100000
set_option maxHeartbeats 40000000
def rv (mc mt:List Sl) (i l:Int) (d:Bool) (a p f s st now sb sf:Int) (k gl:Nat):Nat→Int
 |0=> if sb=i then -1 else 6
 |1=> if (bits .and .i64 f 3==1)=true∧10 < now - st then 4 else -1
 |2=> if (Q0m mc a p).2=true then 0 else -1
 |3=> if sf=0 then (if Q0M k gl=true then 3 else 2) else -1
 |4=> if Q1Y mc mt d a p k gl=true then 3 else -1
 |5=> Q23 mc mt d l a p k gl
 |_=> 1
def rc (mc mt:List Sl) (i l:Int) (d:Bool) (a p f s st now sb sf:Int) (k gl:Nat):Nat→List Sl
 |0=> mc
 |1=> mc
 |2=> tkC mc now a p f s
 |3=> mc
 |4=> mc
 |5=> mc
 |_=> Q11 mc a p s (now+50)
def rt (mc mt:List Sl) (i l:Int) (d:Bool) (a p f s st now sb sf:Int) (k gl:Nat):Nat→List Sl
 |0=> mt
 |1=> mt
 |2=> tkT mc mt now a p f
 |3=> mt
 |4=> mt
 |5=> Q2s mc mt d l a p now k gl
 |_=> mt
theorem Q6I (g h c1 c2:Nat) (mc mt:List Sl) (o3:Option Addr) (n3 c3 bg fg gl cg k:Nat) (i l:Int) (d:Bool) (a p f s st now:Int) (sb sf:Int) (lo mid hi:Nat) (w:World) (hk:k < gl) (hgl:gl≤1048576) (hfl:Q0c a p=true) (hc0:0 < mc.length) (hc16:mc.length≤16) (ht0:0 < mt.length) (ht16:mt.length≤16) (hn0:0≤now) (hn1:now≤100000) (hst0:0≤st) (hst1:st≤100000) (hn3:n3≤maxLen) (hpk:Q0l a p f s n3=true) (hok:Q0F mc) (hgm:g < mid) (hmh:mid≤h) (hhi:h < hi) (ho:w.ownsRow lo Q0k 5 (.slice (some ⟨g,0,none⟩) mc.length c1) mc.length (mc.flatMap Q0e.cs)) (hp:w.ownsRow mid Q0k 5 (.slice (some ⟨h,0,none⟩) mt.length c2) mt.length (mt.flatMap Q0e.cs)) (zb:bg < w.heap.size) (hs0:w.cell? ⟨bg,fg+k * 2,none⟩=some (.int .i64 sb)) (hs1:w.cell? ⟨bg,fg+k * 2+1,none⟩=some (.int .i64 sf)):
  Calls Try.prog 52 #[Q3b (.slice (some ⟨g,0,none⟩) mc.length c1) (.slice (some ⟨h,0,none⟩) mt.length c2) i l d a p f s (.slice o3 n3 c3) (.slice (some ⟨bg,fg,none⟩) gl cg) (k:Int) st now] w fun e w'=> e=.returned (.int .i64 (rv mc mt i l d a p f s st now sb sf k gl 0))∧w'.ownsRow lo Q0k 5 (.slice (some ⟨g,0,none⟩) mc.length c1) mc.length ((rc mc mt i l d a p f s st now sb sf k gl 0).flatMap Q0e.cs)∧w'.ownsRow mid Q0k 5 (.slice (some ⟨h,0,none⟩) mt.length c2) mt.length ((rt mc mt i l d a p f s st now sb sf k gl 0).flatMap Q0e.cs)∧Stp lo hi w w':=by
 have zg:=(ho.lt g rfl).2
 have zh:=(hp.lt h rfl).2
 have lg:=(ho.lt g rfl).1
 refine (Q6Z (some ⟨g,0,none⟩) (some ⟨h,0,none⟩) o3 mc.length c1 mt.length c2 n3 c3 bg fg gl cg k i l d a p f s st now sb sf w hk hgl zb hs0 hs1).mono ?_
 rintro e w' ⟨he,hb⟩
 exact ⟨he,Q0a ho hb,Q0a hp hb,Stp.of hb⟩
theorem Q6t (g h c1 c2:Nat) (mc mt:List Sl) (o3:Option Addr) (n3 c3 bg fg gl cg k:Nat) (i l:Int) (d:Bool) (a p f s st now:Int) (sb sf:Int) (lo mid hi:Nat) (w:World) (hk:k < gl) (hgl:gl≤1048576) (hfl:Q0c a p=true) (hc0:0 < mc.length) (hc16:mc.length≤16) (ht0:0 < mt.length) (ht16:mt.length≤16) (hn0:0≤now) (hn1:now≤100000) (hst0:0≤st) (hst1:st≤100000) (hn3:n3≤maxLen) (hpk:Q0l a p f s n3=true) (hok:Q0F mc) (hgm:g < mid) (hmh:mid≤h) (hhi:h < hi) (ho:w.ownsRow lo Q0k 5 (.slice (some ⟨g,0,none⟩) mc.length c1) mc.length (mc.flatMap Q0e.cs)) (hp:w.ownsRow mid Q0k 5 (.slice (some ⟨h,0,none⟩) mt.length c2) mt.length (mt.flatMap Q0e.cs)) (zb:bg < w.heap.size) (hs0:w.cell? ⟨bg,fg+k * 2,none⟩=some (.int .i64 sb)) (hs1:w.cell? ⟨bg,fg+k * 2+1,none⟩=some (.int .i64 sf)):
  Calls Try.prog 53 #[Q3b (.slice (some ⟨g,0,none⟩) mc.length c1) (.slice (some ⟨h,0,none⟩) mt.length c2) i l d a p f s (.slice o3 n3 c3) (.slice (some ⟨bg,fg,none⟩) gl cg) (k:Int) st now] w fun e w'=> e=.returned (.int .i64 (rv mc mt i l d a p f s st now sb sf k gl 1))∧w'.ownsRow lo Q0k 5 (.slice (some ⟨g,0,none⟩) mc.length c1) mc.length ((rc mc mt i l d a p f s st now sb sf k gl 1).flatMap Q0e.cs)∧w'.ownsRow mid Q0k 5 (.slice (some ⟨h,0,none⟩) mt.length c2) mt.length ((rt mc mt i l d a p f s st now sb sf k gl 1).flatMap Q0e.cs)∧Stp lo hi w w':=by
 have zg:=(ho.lt g rfl).2
 have zh:=(hp.lt h rfl).2
 have lg:=(ho.lt g rfl).1
 refine (Q7r (some ⟨g,0,none⟩) (some ⟨h,0,none⟩) o3 mc.length c1 mt.length c2 n3 c3 bg fg gl cg k i l d a p f s st now w hn3 hpk hn0 hn1 hst0 hst1).mono ?_
 rintro e w' ⟨he,hb⟩
 exact ⟨he,Q0a ho hb,Q0a hp hb,Stp.of hb⟩
theorem Q6p (g h c1 c2:Nat) (mc mt:List Sl) (o3:Option Addr) (n3 c3 bg fg gl cg k:Nat) (i l:Int) (d:Bool) (a p f s st now:Int) (sb sf:Int) (lo mid hi:Nat) (w:World) (hk:k < gl) (hgl:gl≤1048576) (hfl:Q0c a p=true) (hc0:0 < mc.length) (hc16:mc.length≤16) (ht0:0 < mt.length) (ht16:mt.length≤16) (hn0:0≤now) (hn1:now≤100000) (hst0:0≤st) (hst1:st≤100000) (hn3:n3≤maxLen) (hpk:Q0l a p f s n3=true) (hok:Q0F mc) (hgm:g < mid) (hmh:mid≤h) (hhi:h < hi) (ho:w.ownsRow lo Q0k 5 (.slice (some ⟨g,0,none⟩) mc.length c1) mc.length (mc.flatMap Q0e.cs)) (hp:w.ownsRow mid Q0k 5 (.slice (some ⟨h,0,none⟩) mt.length c2) mt.length (mt.flatMap Q0e.cs)) (zb:bg < w.heap.size) (hs0:w.cell? ⟨bg,fg+k * 2,none⟩=some (.int .i64 sb)) (hs1:w.cell? ⟨bg,fg+k * 2+1,none⟩=some (.int .i64 sf)):
  Calls Try.prog 54 #[Q3b (.slice (some ⟨g,0,none⟩) mc.length c1) (.slice (some ⟨h,0,none⟩) mt.length c2) i l d a p f s (.slice o3 n3 c3) (.slice (some ⟨bg,fg,none⟩) gl cg) (k:Int) st now] w fun e w'=> e=.returned (.int .i64 (rv mc mt i l d a p f s st now sb sf k gl 2))∧w'.ownsRow lo Q0k 5 (.slice (some ⟨g,0,none⟩) mc.length c1) mc.length ((rc mc mt i l d a p f s st now sb sf k gl 2).flatMap Q0e.cs)∧w'.ownsRow mid Q0k 5 (.slice (some ⟨h,0,none⟩) mt.length c2) mt.length ((rt mc mt i l d a p f s st now sb sf k gl 2).flatMap Q0e.cs)∧Stp lo hi w w':=by
 have zg:=(ho.lt g rfl).2
 have zh:=(hp.lt h rfl).2
 have lg:=(ho.lt g rfl).1
 exact Q6T g h c1 c2 mc mt o3 n3 c3 bg fg gl cg k i l d a p f s st now lo mid hi w hfl hc0 hc16 ht0 ht16 hn0 hn1 hok hgm hmh hhi ho hp
theorem Q70 (g h c1 c2:Nat) (mc mt:List Sl) (o3:Option Addr) (n3 c3 bg fg gl cg k:Nat) (i l:Int) (d:Bool) (a p f s st now:Int) (sb sf:Int) (lo mid hi:Nat) (w:World) (hk:k < gl) (hgl:gl≤1048576) (hfl:Q0c a p=true) (hc0:0 < mc.length) (hc16:mc.length≤16) (ht0:0 < mt.length) (ht16:mt.length≤16) (hn0:0≤now) (hn1:now≤100000) (hst0:0≤st) (hst1:st≤100000) (hn3:n3≤maxLen) (hpk:Q0l a p f s n3=true) (hok:Q0F mc) (hgm:g < mid) (hmh:mid≤h) (hhi:h < hi) (ho:w.ownsRow lo Q0k 5 (.slice (some ⟨g,0,none⟩) mc.length c1) mc.length (mc.flatMap Q0e.cs)) (hp:w.ownsRow mid Q0k 5 (.slice (some ⟨h,0,none⟩) mt.length c2) mt.length (mt.flatMap Q0e.cs)) (zb:bg < w.heap.size) (hs0:w.cell? ⟨bg,fg+k * 2,none⟩=some (.int .i64 sb)) (hs1:w.cell? ⟨bg,fg+k * 2+1,none⟩=some (.int .i64 sf)):
  Calls Try.prog 55 #[Q3b (.slice (some ⟨g,0,none⟩) mc.length c1) (.slice (some ⟨h,0,none⟩) mt.length c2) i l d a p f s (.slice o3 n3 c3) (.slice (some ⟨bg,fg,none⟩) gl cg) (k:Int) st now] w fun e w'=> e=.returned (.int .i64 (rv mc mt i l d a p f s st now sb sf k gl 3))∧w'.ownsRow lo Q0k 5 (.slice (some ⟨g,0,none⟩) mc.length c1) mc.length ((rc mc mt i l d a p f s st now sb sf k gl 3).flatMap Q0e.cs)∧w'.ownsRow mid Q0k 5 (.slice (some ⟨h,0,none⟩) mt.length c2) mt.length ((rt mc mt i l d a p f s st now sb sf k gl 3).flatMap Q0e.cs)∧Stp lo hi w w':=by
 have zg:=(ho.lt g rfl).2
 have zh:=(hp.lt h rfl).2
 have lg:=(ho.lt g rfl).1
 refine (Q7n (some ⟨g,0,none⟩) (some ⟨h,0,none⟩) o3 mc.length c1 mt.length c2 n3 c3 bg fg gl cg k i l d a p f s st now sb sf w hk hgl zb hs0 hs1).mono ?_
 rintro e w' ⟨he,hb⟩
 exact ⟨he,Q0a ho hb,Q0a hp hb,Stp.of hb⟩
theorem Q76 (g h c1 c2:Nat) (mc mt:List Sl) (o3:Option Addr) (n3 c3 bg fg gl cg k:Nat) (i l:Int) (d:Bool) (a p f s st now:Int) (sb sf:Int) (lo mid hi:Nat) (w:World) (hk:k < gl) (hgl:gl≤1048576) (hfl:Q0c a p=true) (hc0:0 < mc.length) (hc16:mc.length≤16) (ht0:0 < mt.length) (ht16:mt.length≤16) (hn0:0≤now) (hn1:now≤100000) (hst0:0≤st) (hst1:st≤100000) (hn3:n3≤maxLen) (hpk:Q0l a p f s n3=true) (hok:Q0F mc) (hgm:g < mid) (hmh:mid≤h) (hhi:h < hi) (ho:w.ownsRow lo Q0k 5 (.slice (some ⟨g,0,none⟩) mc.length c1) mc.length (mc.flatMap Q0e.cs)) (hp:w.ownsRow mid Q0k 5 (.slice (some ⟨h,0,none⟩) mt.length c2) mt.length (mt.flatMap Q0e.cs)) (zb:bg < w.heap.size) (hs0:w.cell? ⟨bg,fg+k * 2,none⟩=some (.int .i64 sb)) (hs1:w.cell? ⟨bg,fg+k * 2+1,none⟩=some (.int .i64 sf)):
  Calls Try.prog 56 #[Q3b (.slice (some ⟨g,0,none⟩) mc.length c1) (.slice (some ⟨h,0,none⟩) mt.length c2) i l d a p f s (.slice o3 n3 c3) (.slice (some ⟨bg,fg,none⟩) gl cg) (k:Int) st now] w fun e w'=> e=.returned (.int .i64 (rv mc mt i l d a p f s st now sb sf k gl 4))∧w'.ownsRow lo Q0k 5 (.slice (some ⟨g,0,none⟩) mc.length c1) mc.length ((rc mc mt i l d a p f s st now sb sf k gl 4).flatMap Q0e.cs)∧w'.ownsRow mid Q0k 5 (.slice (some ⟨h,0,none⟩) mt.length c2) mt.length ((rt mc mt i l d a p f s st now sb sf k gl 4).flatMap Q0e.cs)∧Stp lo hi w w':=by
 have zg:=(ho.lt g rfl).2
 have zh:=(hp.lt h rfl).2
 have lg:=(ho.lt g rfl).1
 refine (Q5o g h c1 c2 mc mt o3 n3 c3 bg fg gl cg k i l d a p f s st now w hk hgl hfl hc0 (by omega) ht0 (by omega) zg zh (Q0n ho rfl) (Q0n hp rfl)).mono ?_
 rintro e w' ⟨he,hb⟩
 exact ⟨he,Q0a ho hb,Q0a hp hb,Stp.of hb⟩
theorem Q71 (g h c1 c2:Nat) (mc mt:List Sl) (o3:Option Addr) (n3 c3 bg fg gl cg k:Nat) (i l:Int) (d:Bool) (a p f s st now:Int) (sb sf:Int) (lo mid hi:Nat) (w:World) (hk:k < gl) (hgl:gl≤1048576) (hfl:Q0c a p=true) (hc0:0 < mc.length) (hc16:mc.length≤16) (ht0:0 < mt.length) (ht16:mt.length≤16) (hn0:0≤now) (hn1:now≤100000) (hst0:0≤st) (hst1:st≤100000) (hn3:n3≤maxLen) (hpk:Q0l a p f s n3=true) (hok:Q0F mc) (hgm:g < mid) (hmh:mid≤h) (hhi:h < hi) (ho:w.ownsRow lo Q0k 5 (.slice (some ⟨g,0,none⟩) mc.length c1) mc.length (mc.flatMap Q0e.cs)) (hp:w.ownsRow mid Q0k 5 (.slice (some ⟨h,0,none⟩) mt.length c2) mt.length (mt.flatMap Q0e.cs)) (zb:bg < w.heap.size) (hs0:w.cell? ⟨bg,fg+k * 2,none⟩=some (.int .i64 sb)) (hs1:w.cell? ⟨bg,fg+k * 2+1,none⟩=some (.int .i64 sf)):
  Calls Try.prog 57 #[Q3b (.slice (some ⟨g,0,none⟩) mc.length c1) (.slice (some ⟨h,0,none⟩) mt.length c2) i l d a p f s (.slice o3 n3 c3) (.slice (some ⟨bg,fg,none⟩) gl cg) (k:Int) st now] w fun e w'=> e=.returned (.int .i64 (rv mc mt i l d a p f s st now sb sf k gl 5))∧w'.ownsRow lo Q0k 5 (.slice (some ⟨g,0,none⟩) mc.length c1) mc.length ((rc mc mt i l d a p f s st now sb sf k gl 5).flatMap Q0e.cs)∧w'.ownsRow mid Q0k 5 (.slice (some ⟨h,0,none⟩) mt.length c2) mt.length ((rt mc mt i l d a p f s st now sb sf k gl 5).flatMap Q0e.cs)∧Stp lo hi w w':=by
 have zg:=(ho.lt g rfl).2
 have zh:=(hp.lt h rfl).2
 have lg:=(ho.lt g rfl).1
 refine (Q6u g h c1 c2 mc mt o3 n3 c3 bg fg gl cg k i l d a p f s st now mid w hk hgl hfl hc0 (by omega) ht0 (by omega) hn0 hn1 zg (Q0n ho rfl) hp).mono ?_
 rintro e w' ⟨he,hq,hst⟩
 exact ⟨he,(InRow.step (a:=lo) (b:=mid) ⟨ho,fun b e=> by simp [Value.ownBlock] at e;omega⟩ hst (.inr hmh)).1,hq,hst.wide' (by omega) (by omega)⟩
theorem Q6B (g h c1 c2:Nat) (mc mt:List Sl) (o3:Option Addr) (n3 c3 bg fg gl cg k:Nat) (i l:Int) (d:Bool) (a p f s st now:Int) (sb sf:Int) (lo mid hi:Nat) (w:World) (hk:k < gl) (hgl:gl≤1048576) (hfl:Q0c a p=true) (hc0:0 < mc.length) (hc16:mc.length≤16) (ht0:0 < mt.length) (ht16:mt.length≤16) (hn0:0≤now) (hn1:now≤100000) (hst0:0≤st) (hst1:st≤100000) (hn3:n3≤maxLen) (hpk:Q0l a p f s n3=true) (hok:Q0F mc) (hgm:g < mid) (hmh:mid≤h) (hhi:h < hi) (ho:w.ownsRow lo Q0k 5 (.slice (some ⟨g,0,none⟩) mc.length c1) mc.length (mc.flatMap Q0e.cs)) (hp:w.ownsRow mid Q0k 5 (.slice (some ⟨h,0,none⟩) mt.length c2) mt.length (mt.flatMap Q0e.cs)) (zb:bg < w.heap.size) (hs0:w.cell? ⟨bg,fg+k * 2,none⟩=some (.int .i64 sb)) (hs1:w.cell? ⟨bg,fg+k * 2+1,none⟩=some (.int .i64 sf)):
  Calls Try.prog 58 #[Q3b (.slice (some ⟨g,0,none⟩) mc.length c1) (.slice (some ⟨h,0,none⟩) mt.length c2) i l d a p f s (.slice o3 n3 c3) (.slice (some ⟨bg,fg,none⟩) gl cg) (k:Int) st now] w fun e w'=> e=.returned (.int .i64 (rv mc mt i l d a p f s st now sb sf k gl 6))∧w'.ownsRow lo Q0k 5 (.slice (some ⟨g,0,none⟩) mc.length c1) mc.length ((rc mc mt i l d a p f s st now sb sf k gl 6).flatMap Q0e.cs)∧w'.ownsRow mid Q0k 5 (.slice (some ⟨h,0,none⟩) mt.length c2) mt.length ((rt mc mt i l d a p f s st now sb sf k gl 6).flatMap Q0e.cs)∧Stp lo hi w w':=by
 have zg:=(ho.lt g rfl).2
 have zh:=(hp.lt h rfl).2
 have lg:=(ho.lt g rfl).1
 refine (Q64 g lo c1 mc (some ⟨h,0,none⟩) o3 mt.length c2 n3 c3 bg fg gl cg k i l d a p f s st now w hc0 (by omega) hfl hn0 hn1 ho).mono ?_
 rintro e w' ⟨he,hq,hst⟩
 exact ⟨he,hq,(InRow.step (a:=mid) (b:=hi) ⟨hp,fun b e=> by simp [Value.ownBlock] at e;omega⟩ hst (.inl (by omega))).1,hst.wide' lg (by omega)⟩
theorem Q30 {mc mt:List Sl} {i l:Int} {d:Bool} {a p f s st now sb sf:Int} {k gl:Nat} {j:Nat} (hj:j < 6) (h:rv mc mt i l d a p f s st now sb sf k gl j= -1):rc mc mt i l d a p f s st now sb sf k gl j=mc:=by
 match j,hj with
 |0,_=> rfl
 |1,_=> rfl
 |2,_=>
  simp only [rv] at h
  simp only [rc,tkC]
  split at h
  ·omega
  ·next hn=> rw [if_neg hn]
 |3,_=> rfl
 |4,_=> rfl
 |5,_=> rfl
theorem Q2U {mc mt:List Sl} {i l:Int} {d:Bool} {a p f s st now sb sf:Int} {k gl:Nat} {j:Nat} (hj:j < 6) (h:rv mc mt i l d a p f s st now sb sf k gl j= -1):rt mc mt i l d a p f s st now sb sf k gl j=mt:=by
 match j,hj with
 |0,_=> rfl
 |1,_=> rfl
 |2,_=>
  simp only [rv] at h
  simp only [rt,tkT]
  split at h
  ·omega
  ·next hn=> rw [if_neg hn]
 |3,_=> rfl
 |4,_=> rfl
 |5,_=>
  simp only [rv,Q23] at h
  simp only [rt,Q2s]
  split at h
  ·next hq=> rw [if_pos hq]
  ·split at h <;> omega
theorem Q8I (w:World):(Instr.index 94 (.agg #[.func (Fn.func 52) #[] #[],.func (Fn.func 53) #[] #[],.func (Fn.func 54) #[] #[],.func (Fn.func 55) #[] #[],.func (Fn.func 56) #[] #[],.func (Fn.func 57) #[] #[],.func (Fn.func 58) #[] #[]]) (.int .i64 0)).run Try.prog w=.ok (.func (Fn.func 52) #[] #[]) w:=by kernel_rfl
theorem Q8J (w:World):(Instr.index 94 (.agg #[.func (Fn.func 52) #[] #[],.func (Fn.func 53) #[] #[],.func (Fn.func 54) #[] #[],.func (Fn.func 55) #[] #[],.func (Fn.func 56) #[] #[],.func (Fn.func 57) #[] #[],.func (Fn.func 58) #[] #[]]) (.int .i64 1)).run Try.prog w=.ok (.func (Fn.func 53) #[] #[]) w:=by kernel_rfl
theorem Q8G (w:World):(Instr.index 94 (.agg #[.func (Fn.func 52) #[] #[],.func (Fn.func 53) #[] #[],.func (Fn.func 54) #[] #[],.func (Fn.func 55) #[] #[],.func (Fn.func 56) #[] #[],.func (Fn.func 57) #[] #[],.func (Fn.func 58) #[] #[]]) (.int .i64 2)).run Try.prog w=.ok (.func (Fn.func 54) #[] #[]) w:=by kernel_rfl
theorem Q8E (w:World):(Instr.index 94 (.agg #[.func (Fn.func 52) #[] #[],.func (Fn.func 53) #[] #[],.func (Fn.func 54) #[] #[],.func (Fn.func 55) #[] #[],.func (Fn.func 56) #[] #[],.func (Fn.func 57) #[] #[],.func (Fn.func 58) #[] #[]]) (.int .i64 3)).run Try.prog w=.ok (.func (Fn.func 55) #[] #[]) w:=by kernel_rfl
theorem Q8z (w:World):(Instr.index 94 (.agg #[.func (Fn.func 52) #[] #[],.func (Fn.func 53) #[] #[],.func (Fn.func 54) #[] #[],.func (Fn.func 55) #[] #[],.func (Fn.func 56) #[] #[],.func (Fn.func 57) #[] #[],.func (Fn.func 58) #[] #[]]) (.int .i64 4)).run Try.prog w=.ok (.func (Fn.func 56) #[] #[]) w:=by kernel_rfl
theorem Q8C (w:World):(Instr.index 94 (.agg #[.func (Fn.func 52) #[] #[],.func (Fn.func 53) #[] #[],.func (Fn.func 54) #[] #[],.func (Fn.func 55) #[] #[],.func (Fn.func 56) #[] #[],.func (Fn.func 57) #[] #[],.func (Fn.func 58) #[] #[]]) (.int .i64 5)).run Try.prog w=.ok (.func (Fn.func 57) #[] #[]) w:=by kernel_rfl
theorem Q8D (w:World):(Instr.index 94 (.agg #[.func (Fn.func 52) #[] #[],.func (Fn.func 53) #[] #[],.func (Fn.func 54) #[] #[],.func (Fn.func 55) #[] #[],.func (Fn.func 56) #[] #[],.func (Fn.func 57) #[] #[],.func (Fn.func 58) #[] #[]]) (.int .i64 6)).run Try.prog w=.ok (.func (Fn.func 58) #[] #[]) w:=by kernel_rfl
theorem Q4L (g h c1 c2:Nat) (mc mt:List Sl) (o3:Option Addr) (n3 c3 bg fg gl cg k:Nat) (i l:Int) (d:Bool) (a p f s st now:Int) (sb sf:Int) (lo mid hi:Nat) (w:World) (hk:k < gl) (hgl:gl≤1048576) (hfl:Q0c a p=true) (hc0:0 < mc.length) (hc16:mc.length≤16) (ht0:0 < mt.length) (ht16:mt.length≤16) (hn0:0≤now) (hn1:now≤100000) (hst0:0≤st) (hst1:st≤100000) (hn3:n3≤maxLen) (hpk:Q0l a p f s n3=true) (hok:Q0F mc) (hgm:g < mid) (hmh:mid≤h) (hhi:h < hi) (ho:w.ownsRow lo Q0k 5 (.slice (some ⟨g,0,none⟩) mc.length c1) mc.length (mc.flatMap Q0e.cs)) (hp:w.ownsRow mid Q0k 5 (.slice (some ⟨h,0,none⟩) mt.length c2) mt.length (mt.flatMap Q0e.cs)) (zb:bg < w.heap.size) (hs0:w.cell? ⟨bg,fg+k * 2,none⟩=some (.int .i64 sb)) (hs1:w.cell? ⟨bg,fg+k * 2+1,none⟩=some (.int .i64 sf)) (hiw:hi≤w.heap.size) (hbg:bg < lo∨hi≤bg):
  Calls Try.prog 29 #[Q3b (.slice (some ⟨g,0,none⟩) mc.length c1) (.slice (some ⟨h,0,none⟩) mt.length c2) i l d a p f s (.slice o3 n3 c3) (.slice (some ⟨bg,fg,none⟩) gl cg) (k:Int) st now] w fun e w'=> ∃j:Nat,j≤6∧(∀q,q < j→rv mc mt i l d a p f s st now sb sf k gl q= -1)∧rv mc mt i l d a p f s st now sb sf k gl j≠ -1∧e=.returned (.int .i64 (rv mc mt i l d a p f s st now sb sf k gl j))∧w'.ownsRow lo Q0k 5 (.slice (some ⟨g,0,none⟩) mc.length c1) mc.length ((rc mc mt i l d a p f s st now sb sf k gl j).flatMap Q0e.cs)∧w'.ownsRow mid Q0k 5 (.slice (some ⟨h,0,none⟩) mt.length c2) mt.length ((rt mc mt i l d a p f s st now sb sf k gl j).flatMap Q0e.cs)∧Stp lo hi w w':=by
 have hsf:=fun (a:Addr) (F:Fn) (w:World)=> run_store Try.prog w a (.func F #[] #[]) .plain rfl
 obtain ⟨W0,hW0⟩:∃W,(w.alloc (.cells #[.slice (some ⟨g,0,none⟩) mc.length c1,.slice (some ⟨h,0,none⟩) mt.length c2,.int .i64 i,.int .i64 l,.bool d,.int .i64 a,.int .i64 p,.int .i64 f,.int .i64 s,.slice o3 n3 c3,.slice (some ⟨bg,fg,none⟩) gl cg,.int .i64 (k:Int),.int .i64 st,.int .i64 now] 74))=W:=⟨_,rfl⟩
 have hb_W0:Below w.heap.size w W0:=by rw [←hW0];exact ((Below.refl _ _).alloc (Kaq _) _)
 have HB:=Q00 hb_W0
 clear hb_W0
 have zz:w.heap.size < W0.heap.size:=by rw [←hW0];simp
 have z0:W0.cell? ⟨w.heap.size,0,none⟩=some (.slice (some ⟨g,0,none⟩) mc.length c1):=by rw [←hW0];simp [go_sem]
 have z1:W0.cell? ⟨w.heap.size,1,none⟩=some (.slice (some ⟨h,0,none⟩) mt.length c2):=by rw [←hW0];simp [go_sem]
 have z2:W0.cell? ⟨w.heap.size,2,none⟩=some (.int .i64 i):=by rw [←hW0];simp [go_sem]
 have z3:W0.cell? ⟨w.heap.size,3,none⟩=some (.int .i64 l):=by rw [←hW0];simp [go_sem]
 have z4:W0.cell? ⟨w.heap.size,4,none⟩=some (.bool d):=by rw [←hW0];simp [go_sem]
 have z5:W0.cell? ⟨w.heap.size,5,none⟩=some (.int .i64 a):=by rw [←hW0];simp [go_sem]
 have z6:W0.cell? ⟨w.heap.size,6,none⟩=some (.int .i64 p):=by rw [←hW0];simp [go_sem]
 have z7:W0.cell? ⟨w.heap.size,7,none⟩=some (.int .i64 f):=by rw [←hW0];simp [go_sem]
 have z8:W0.cell? ⟨w.heap.size,8,none⟩=some (.int .i64 s):=by rw [←hW0];simp [go_sem]
 have z9:W0.cell? ⟨w.heap.size,9,none⟩=some (.slice o3 n3 c3):=by rw [←hW0];simp [go_sem]
 have z10:W0.cell? ⟨w.heap.size,10,none⟩=some (.slice (some ⟨bg,fg,none⟩) gl cg):=by rw [←hW0];simp [go_sem]
 have z11:W0.cell? ⟨w.heap.size,11,none⟩=some (.int .i64 (k:Int)):=by rw [←hW0];simp [go_sem]
 have z12:W0.cell? ⟨w.heap.size,12,none⟩=some (.int .i64 st):=by rw [←hW0];simp [go_sem]
 have z13:W0.cell? ⟨w.heap.size,13,none⟩=some (.int .i64 now):=by rw [←hW0];simp [go_sem]
 obtain ⟨W1,hW1⟩:∃W,(W0.alloc (.cells #[.func (Fn.func 52) #[] #[],.func (Fn.func 53) #[] #[],.func (Fn.func 54) #[] #[],.func (Fn.func 55) #[] #[],.func (Fn.func 56) #[] #[],.func (Fn.func 57) #[] #[],.func (Fn.func 58) #[] #[]] 94))=W:=⟨_,rfl⟩
 have hb_W1:Below W0.heap.size W0 W1:=by rw [←hW1];exact ((Below.refl _ _).alloc (Kaq _) _)
 replace z0:=bC hb_W1 z0 zz
 replace z1:=bC hb_W1 z1 zz
 replace z2:=bC hb_W1 z2 zz
 replace z3:=bC hb_W1 z3 zz
 replace z4:=bC hb_W1 z4 zz
 replace z5:=bC hb_W1 z5 zz
 replace z6:=bC hb_W1 z6 zz
 replace z7:=bC hb_W1 z7 zz
 replace z8:=bC hb_W1 z8 zz
 replace z9:=bC hb_W1 z9 zz
 replace z10:=bC hb_W1 z10 zz
 replace z11:=bC hb_W1 z11 zz
 replace z12:=bC hb_W1 z12 zz
 replace z13:=bC hb_W1 z13 zz
 replace zz:=Kbq zz hb_W1.size
 replace HB:=Q00 (HB.out.trans (hb_W1.mono HB.out.size))
 clear hb_W1
 have zq:W0.heap.size < W1.heap.size:=by rw [←hW1];simp
 have q0:W1.cell? ⟨W0.heap.size,0,none⟩=some (.func (Fn.func 52) #[] #[]):=by rw [←hW1];simp [go_sem]
 have q1:W1.cell? ⟨W0.heap.size,1,none⟩=some (.func (Fn.func 53) #[] #[]):=by rw [←hW1];simp [go_sem]
 have q2:W1.cell? ⟨W0.heap.size,2,none⟩=some (.func (Fn.func 54) #[] #[]):=by rw [←hW1];simp [go_sem]
 have q3:W1.cell? ⟨W0.heap.size,3,none⟩=some (.func (Fn.func 55) #[] #[]):=by rw [←hW1];simp [go_sem]
 have q4:W1.cell? ⟨W0.heap.size,4,none⟩=some (.func (Fn.func 56) #[] #[]):=by rw [←hW1];simp [go_sem]
 have q5:W1.cell? ⟨W0.heap.size,5,none⟩=some (.func (Fn.func 57) #[] #[]):=by rw [←hW1];simp [go_sem]
 have q6:W1.cell? ⟨W0.heap.size,6,none⟩=some (.func (Fn.func 58) #[] #[]):=by rw [←hW1];simp [go_sem]
 have HO:=Q00 (Q0a ho HB.out)
 have HP:=Q00 (Q0a hp HB.out)
 have t0:=(HB.out.cell (p:=⟨bg,fg+k * 2,none⟩) zb).trans hs0
 have t1:=(HB.out.cell (p:=⟨bg,fg+k * 2+1,none⟩) zb).trans hs1
 have zb1:bg < W1.heap.size:=Kbq zb HB.out.size
 have hW:=HB.out.size
 clear ho hp hs0 hs1
 go_enter Try.func29,Try.ntmps29
 go_wp2
 go_loopw [4,9] (fun vv iv wr=> ∃j:Nat,j≤6∧iv=.int .i64 (j:Int)∧vv=.int .i64 (-1)∧Hid (∀q,q < j→rv mc mt i l d a p f s st now sb sf k gl q= -1)∧Hid (wr.ownsRow lo Q0k 5 (.slice (some ⟨g,0,none⟩) mc.length c1) mc.length (mc.flatMap Q0e.cs))∧Hid (wr.ownsRow mid Q0k 5 (.slice (some ⟨h,0,none⟩) mt.length c2) mt.length (mt.flatMap Q0e.cs))∧Hid (Stp lo hi W1 wr)) (fun _ iv _=> 7 - (intOf iv).toNat)
 case atStart=> exact ⟨0,by omega,rfl,rfl,fun q hq=> absurd hq (Nat.not_lt_zero _),HO,HP,Stp.refl _⟩
 case round=>
  clear HO HP hsf hW1 hW0
  obtain ⟨j,hj,rfl,rfl,HQ,HO,HP,HS⟩:=hrel
  have sr:=HS.out.size
  replace z0:wr.cell? ⟨w.heap.size,0,none⟩=some (.slice (some ⟨g,0,none⟩) mc.length c1):=HS.out.cell z0 zz (.inr hiw)
  replace z1:wr.cell? ⟨w.heap.size,1,none⟩=some (.slice (some ⟨h,0,none⟩) mt.length c2):=HS.out.cell z1 zz (.inr hiw)
  replace z2:wr.cell? ⟨w.heap.size,2,none⟩=some (.int .i64 i):=HS.out.cell z2 zz (.inr hiw)
  replace z3:wr.cell? ⟨w.heap.size,3,none⟩=some (.int .i64 l):=HS.out.cell z3 zz (.inr hiw)
  replace z4:wr.cell? ⟨w.heap.size,4,none⟩=some (.bool d):=HS.out.cell z4 zz (.inr hiw)
  replace z5:wr.cell? ⟨w.heap.size,5,none⟩=some (.int .i64 a):=HS.out.cell z5 zz (.inr hiw)
  replace z6:wr.cell? ⟨w.heap.size,6,none⟩=some (.int .i64 p):=HS.out.cell z6 zz (.inr hiw)
  replace z7:wr.cell? ⟨w.heap.size,7,none⟩=some (.int .i64 f):=HS.out.cell z7 zz (.inr hiw)
  replace z8:wr.cell? ⟨w.heap.size,8,none⟩=some (.int .i64 s):=HS.out.cell z8 zz (.inr hiw)
  replace z9:wr.cell? ⟨w.heap.size,9,none⟩=some (.slice o3 n3 c3):=HS.out.cell z9 zz (.inr hiw)
  replace z10:wr.cell? ⟨w.heap.size,10,none⟩=some (.slice (some ⟨bg,fg,none⟩) gl cg):=HS.out.cell z10 zz (.inr hiw)
  replace z11:wr.cell? ⟨w.heap.size,11,none⟩=some (.int .i64 (k:Int)):=HS.out.cell z11 zz (.inr hiw)
  replace z12:wr.cell? ⟨w.heap.size,12,none⟩=some (.int .i64 st):=HS.out.cell z12 zz (.inr hiw)
  replace z13:wr.cell? ⟨w.heap.size,13,none⟩=some (.int .i64 now):=HS.out.cell z13 zz (.inr hiw)
  replace t0:=HS.out.cell t0 zb1 hbg
  replace t1:=HS.out.cell t1 zb1 hbg
  have HB1:Hid (Stp lo hi w wr):=(Stp.of HB.out).trans HS.out
  clear q0 q1 q2 q3 q4 q5 q6
  match j,hj with
  |0,_=>
   have hix:=Q8I
   have hc:=Q6I g h c1 c2 mc mt o3 n3 c3 bg fg gl cg k i l d a p f s st now sb sf lo mid hi wr hk hgl hfl hc0 hc16 ht0 ht16 hn0 hn1 hst0 hst1 hn3 hpk hok hgm hmh hhi HO.out HP.out (by omega) t0 t1
   clear t0 t1
   have HCs:=Q00 (fun h=> Q30 (j:=0) (by decide) h:rv mc mt i l d a p f s st now sb sf k gl 0= -1→rc mc mt i l d a p f s st now sb sf k gl 0=mc)
   have HTs:=Q00 (fun h=> Q2U (j:=0) (by decide) h:rv mc mt i l d a p f s st now sb sf k gl 0= -1→rt mc mt i l d a p f s st now sb sf k gl 0=mt)
   obtain ⟨r,hr⟩:∃q,rv mc mt i l d a p f s st now sb sf k gl 0=q:=⟨_,rfl⟩
   obtain ⟨cR,hcR⟩:∃q,rc mc mt i l d a p f s st now sb sf k gl 0=q:=⟨_,rfl⟩
   obtain ⟨tR,htR⟩:∃q,rt mc mt i l d a p f s st now sb sf k gl 0=q:=⟨_,rfl⟩
   rw [hr,hcR,htR] at hc
   rw [hr,hcR] at HCs
   rw [hr,htR] at HTs
   have Hc:=Q00 hc
   have HR:=Q00 hr
   have HCR:=Q00 hcR
   have HTR:=Q00 htR
   clear hc hr hcR htR
   by_cases h1:r= -1
   ·subst h1
    go_wp2_with fail
    refine Hc.out.mono ?_
    rintro e w2 ⟨rfl,o1,o2,s2⟩
    have HO2:=Q00 o1
    have HP2:=Q00 o2
    have HS2:=Q00 s2
    clear o1 o2 s2 Hc
    go_wp2
    go_roundw
    case rel=> exact ⟨1,by decide,by go_num,rfl,fun q hq=> (Nat.lt_succ_iff_lt_or_eq.1 (show q < 0+1 from hq)).elim (HQ.out q) (fun h=> (by rw [h];exact HR.out)),(by have h:=HO2.out;rw [HCs.out (by simp)] at h;exact h),(by have h:=HP2.out;rw [HTs.out (by simp)] at h;exact h),HS.out.trans HS2.out⟩
    case measure=> simp [intOf]
   ·skip
    go_wp2_with fail
    refine Hc.out.mono ?_
    rintro e w2 ⟨rfl,o1,o2,s2⟩
    have HO2:=Q00 o1
    have HP2:=Q00 o2
    have HS2:=Q00 s2
    clear o1 o2 s2 Hc
    go_wp2
    go_ret
    exact ⟨0,by decide,HQ.out,by rw [HR.out];exact h1,by rw [HR.out];rfl,by rw [HCR.out];exact HO2.out,by rw [HTR.out];exact HP2.out,HB1.out.trans HS2.out⟩
  |1,_=>
   have hix:=Q8J
   have hc:=Q6t g h c1 c2 mc mt o3 n3 c3 bg fg gl cg k i l d a p f s st now sb sf lo mid hi wr hk hgl hfl hc0 hc16 ht0 ht16 hn0 hn1 hst0 hst1 hn3 hpk hok hgm hmh hhi HO.out HP.out (by omega) t0 t1
   clear t0 t1
   have HCs:=Q00 (fun h=> Q30 (j:=1) (by decide) h:rv mc mt i l d a p f s st now sb sf k gl 1= -1→rc mc mt i l d a p f s st now sb sf k gl 1=mc)
   have HTs:=Q00 (fun h=> Q2U (j:=1) (by decide) h:rv mc mt i l d a p f s st now sb sf k gl 1= -1→rt mc mt i l d a p f s st now sb sf k gl 1=mt)
   obtain ⟨r,hr⟩:∃q,rv mc mt i l d a p f s st now sb sf k gl 1=q:=⟨_,rfl⟩
   obtain ⟨cR,hcR⟩:∃q,rc mc mt i l d a p f s st now sb sf k gl 1=q:=⟨_,rfl⟩
   obtain ⟨tR,htR⟩:∃q,rt mc mt i l d a p f s st now sb sf k gl 1=q:=⟨_,rfl⟩
   rw [hr,hcR,htR] at hc
   rw [hr,hcR] at HCs
   rw [hr,htR] at HTs
   have Hc:=Q00 hc
   have HR:=Q00 hr
   have HCR:=Q00 hcR
   have HTR:=Q00 htR
   clear hc hr hcR htR
   by_cases h1:r= -1
   ·subst h1
    go_wp2_with fail
    refine Hc.out.mono ?_
    rintro e w2 ⟨rfl,o1,o2,s2⟩
    have HO2:=Q00 o1
    have HP2:=Q00 o2
    have HS2:=Q00 s2
    clear o1 o2 s2 Hc
    go_wp2
    go_roundw
    case rel=> exact ⟨2,by decide,by go_num,rfl,fun q hq=> (Nat.lt_succ_iff_lt_or_eq.1 (show q < 1+1 from hq)).elim (HQ.out q) (fun h=> (by rw [h];exact HR.out)),(by have h:=HO2.out;rw [HCs.out (by simp)] at h;exact h),(by have h:=HP2.out;rw [HTs.out (by simp)] at h;exact h),HS.out.trans HS2.out⟩
    case measure=> simp [intOf]
   ·skip
    go_wp2_with fail
    refine Hc.out.mono ?_
    rintro e w2 ⟨rfl,o1,o2,s2⟩
    have HO2:=Q00 o1
    have HP2:=Q00 o2
    have HS2:=Q00 s2
    clear o1 o2 s2 Hc
    go_wp2
    go_ret
    exact ⟨1,by decide,HQ.out,by rw [HR.out];exact h1,by rw [HR.out];rfl,by rw [HCR.out];exact HO2.out,by rw [HTR.out];exact HP2.out,HB1.out.trans HS2.out⟩
  |2,_=>
   have hix:=Q8G
   have hc:=Q6p g h c1 c2 mc mt o3 n3 c3 bg fg gl cg k i l d a p f s st now sb sf lo mid hi wr hk hgl hfl hc0 hc16 ht0 ht16 hn0 hn1 hst0 hst1 hn3 hpk hok hgm hmh hhi HO.out HP.out (by omega) t0 t1
   clear t0 t1
   have HCs:=Q00 (fun h=> Q30 (j:=2) (by decide) h:rv mc mt i l d a p f s st now sb sf k gl 2= -1→rc mc mt i l d a p f s st now sb sf k gl 2=mc)
   have HTs:=Q00 (fun h=> Q2U (j:=2) (by decide) h:rv mc mt i l d a p f s st now sb sf k gl 2= -1→rt mc mt i l d a p f s st now sb sf k gl 2=mt)
   obtain ⟨r,hr⟩:∃q,rv mc mt i l d a p f s st now sb sf k gl 2=q:=⟨_,rfl⟩
   obtain ⟨cR,hcR⟩:∃q,rc mc mt i l d a p f s st now sb sf k gl 2=q:=⟨_,rfl⟩
   obtain ⟨tR,htR⟩:∃q,rt mc mt i l d a p f s st now sb sf k gl 2=q:=⟨_,rfl⟩
   rw [hr,hcR,htR] at hc
   rw [hr,hcR] at HCs
   rw [hr,htR] at HTs
   have Hc:=Q00 hc
   have HR:=Q00 hr
   have HCR:=Q00 hcR
   have HTR:=Q00 htR
   clear hc hr hcR htR
   by_cases h1:r= -1
   ·subst h1
    go_wp2_with fail
    refine Hc.out.mono ?_
    rintro e w2 ⟨rfl,o1,o2,s2⟩
    have HO2:=Q00 o1
    have HP2:=Q00 o2
    have HS2:=Q00 s2
    clear o1 o2 s2 Hc
    go_wp2
    go_roundw
    case rel=> exact ⟨3,by decide,by go_num,rfl,fun q hq=> (Nat.lt_succ_iff_lt_or_eq.1 (show q < 2+1 from hq)).elim (HQ.out q) (fun h=> (by rw [h];exact HR.out)),(by have h:=HO2.out;rw [HCs.out (by simp)] at h;exact h),(by have h:=HP2.out;rw [HTs.out (by simp)] at h;exact h),HS.out.trans HS2.out⟩
    case measure=> simp [intOf]
   ·skip
    go_wp2_with fail
    refine Hc.out.mono ?_
    rintro e w2 ⟨rfl,o1,o2,s2⟩
    have HO2:=Q00 o1
    have HP2:=Q00 o2
    have HS2:=Q00 s2
    clear o1 o2 s2 Hc
    go_wp2
    go_ret
    exact ⟨2,by decide,HQ.out,by rw [HR.out];exact h1,by rw [HR.out];rfl,by rw [HCR.out];exact HO2.out,by rw [HTR.out];exact HP2.out,HB1.out.trans HS2.out⟩
  |3,_=>
   have hix:=Q8E
   have hc:=Q70 g h c1 c2 mc mt o3 n3 c3 bg fg gl cg k i l d a p f s st now sb sf lo mid hi wr hk hgl hfl hc0 hc16 ht0 ht16 hn0 hn1 hst0 hst1 hn3 hpk hok hgm hmh hhi HO.out HP.out (by omega) t0 t1
   clear t0 t1
   have HCs:=Q00 (fun h=> Q30 (j:=3) (by decide) h:rv mc mt i l d a p f s st now sb sf k gl 3= -1→rc mc mt i l d a p f s st now sb sf k gl 3=mc)
   have HTs:=Q00 (fun h=> Q2U (j:=3) (by decide) h:rv mc mt i l d a p f s st now sb sf k gl 3= -1→rt mc mt i l d a p f s st now sb sf k gl 3=mt)
   obtain ⟨r,hr⟩:∃q,rv mc mt i l d a p f s st now sb sf k gl 3=q:=⟨_,rfl⟩
   obtain ⟨cR,hcR⟩:∃q,rc mc mt i l d a p f s st now sb sf k gl 3=q:=⟨_,rfl⟩
   obtain ⟨tR,htR⟩:∃q,rt mc mt i l d a p f s st now sb sf k gl 3=q:=⟨_,rfl⟩
   rw [hr,hcR,htR] at hc
   rw [hr,hcR] at HCs
   rw [hr,htR] at HTs
   have Hc:=Q00 hc
   have HR:=Q00 hr
   have HCR:=Q00 hcR
   have HTR:=Q00 htR
   clear hc hr hcR htR
   by_cases h1:r= -1
   ·subst h1
    go_wp2_with fail
    refine Hc.out.mono ?_
    rintro e w2 ⟨rfl,o1,o2,s2⟩
    have HO2:=Q00 o1
    have HP2:=Q00 o2
    have HS2:=Q00 s2
    clear o1 o2 s2 Hc
    go_wp2
    go_roundw
    case rel=> exact ⟨4,by decide,by go_num,rfl,fun q hq=> (Nat.lt_succ_iff_lt_or_eq.1 (show q < 3+1 from hq)).elim (HQ.out q) (fun h=> (by rw [h];exact HR.out)),(by have h:=HO2.out;rw [HCs.out (by simp)] at h;exact h),(by have h:=HP2.out;rw [HTs.out (by simp)] at h;exact h),HS.out.trans HS2.out⟩
    case measure=> simp [intOf]
   ·skip
    go_wp2_with fail
    refine Hc.out.mono ?_
    rintro e w2 ⟨rfl,o1,o2,s2⟩
    have HO2:=Q00 o1
    have HP2:=Q00 o2
    have HS2:=Q00 s2
    clear o1 o2 s2 Hc
    go_wp2
    go_ret
    exact ⟨3,by decide,HQ.out,by rw [HR.out];exact h1,by rw [HR.out];rfl,by rw [HCR.out];exact HO2.out,by rw [HTR.out];exact HP2.out,HB1.out.trans HS2.out⟩
  |4,_=>
   have hix:=Q8z
   have hc:=Q76 g h c1 c2 mc mt o3 n3 c3 bg fg gl cg k i l d a p f s st now sb sf lo mid hi wr hk hgl hfl hc0 hc16 ht0 ht16 hn0 hn1 hst0 hst1 hn3 hpk hok hgm hmh hhi HO.out HP.out (by omega) t0 t1
   clear t0 t1
   have HCs:=Q00 (fun h=> Q30 (j:=4) (by decide) h:rv mc mt i l d a p f s st now sb sf k gl 4= -1→rc mc mt i l d a p f s st now sb sf k gl 4=mc)
   have HTs:=Q00 (fun h=> Q2U (j:=4) (by decide) h:rv mc mt i l d a p f s st now sb sf k gl 4= -1→rt mc mt i l d a p f s st now sb sf k gl 4=mt)
   obtain ⟨r,hr⟩:∃q,rv mc mt i l d a p f s st now sb sf k gl 4=q:=⟨_,rfl⟩
   obtain ⟨cR,hcR⟩:∃q,rc mc mt i l d a p f s st now sb sf k gl 4=q:=⟨_,rfl⟩
   obtain ⟨tR,htR⟩:∃q,rt mc mt i l d a p f s st now sb sf k gl 4=q:=⟨_,rfl⟩
   rw [hr,hcR,htR] at hc
   rw [hr,hcR] at HCs
   rw [hr,htR] at HTs
   have Hc:=Q00 hc
   have HR:=Q00 hr
   have HCR:=Q00 hcR
   have HTR:=Q00 htR
   clear hc hr hcR htR
   by_cases h1:r= -1
   ·subst h1
    go_wp2_with fail
    refine Hc.out.mono ?_
    rintro e w2 ⟨rfl,o1,o2,s2⟩
    have HO2:=Q00 o1
    have HP2:=Q00 o2
    have HS2:=Q00 s2
    clear o1 o2 s2 Hc
    go_wp2
    go_roundw
    case rel=> exact ⟨5,by decide,by go_num,rfl,fun q hq=> (Nat.lt_succ_iff_lt_or_eq.1 (show q < 4+1 from hq)).elim (HQ.out q) (fun h=> (by rw [h];exact HR.out)),(by have h:=HO2.out;rw [HCs.out (by simp)] at h;exact h),(by have h:=HP2.out;rw [HTs.out (by simp)] at h;exact h),HS.out.trans HS2.out⟩
    case measure=> simp [intOf]
   ·skip
    go_wp2_with fail
    refine Hc.out.mono ?_
    rintro e w2 ⟨rfl,o1,o2,s2⟩
    have HO2:=Q00 o1
    have HP2:=Q00 o2
    have HS2:=Q00 s2
    clear o1 o2 s2 Hc
    go_wp2
    go_ret
    exact ⟨4,by decide,HQ.out,by rw [HR.out];exact h1,by rw [HR.out];rfl,by rw [HCR.out];exact HO2.out,by rw [HTR.out];exact HP2.out,HB1.out.trans HS2.out⟩
  |5,_=>
   have hix:=Q8C
   have hc:=Q71 g h c1 c2 mc mt o3 n3 c3 bg fg gl cg k i l d a p f s st now sb sf lo mid hi wr hk hgl hfl hc0 hc16 ht0 ht16 hn0 hn1 hst0 hst1 hn3 hpk hok hgm hmh hhi HO.out HP.out (by omega) t0 t1
   clear t0 t1
   have HCs:=Q00 (fun h=> Q30 (j:=5) (by decide) h:rv mc mt i l d a p f s st now sb sf k gl 5= -1→rc mc mt i l d a p f s st now sb sf k gl 5=mc)
   have HTs:=Q00 (fun h=> Q2U (j:=5) (by decide) h:rv mc mt i l d a p f s st now sb sf k gl 5= -1→rt mc mt i l d a p f s st now sb sf k gl 5=mt)
   obtain ⟨r,hr⟩:∃q,rv mc mt i l d a p f s st now sb sf k gl 5=q:=⟨_,rfl⟩
   obtain ⟨cR,hcR⟩:∃q,rc mc mt i l d a p f s st now sb sf k gl 5=q:=⟨_,rfl⟩
   obtain ⟨tR,htR⟩:∃q,rt mc mt i l d a p f s st now sb sf k gl 5=q:=⟨_,rfl⟩
   rw [hr,hcR,htR] at hc
   rw [hr,hcR] at HCs
   rw [hr,htR] at HTs
   have Hc:=Q00 hc
   have HR:=Q00 hr
   have HCR:=Q00 hcR
   have HTR:=Q00 htR
   clear hc hr hcR htR
   by_cases h1:r= -1
   ·subst h1
    go_wp2_with fail
    refine Hc.out.mono ?_
    rintro e w2 ⟨rfl,o1,o2,s2⟩
    have HO2:=Q00 o1
    have HP2:=Q00 o2
    have HS2:=Q00 s2
    clear o1 o2 s2 Hc
    go_wp2
    go_roundw
    case rel=> exact ⟨6,by decide,by go_num,rfl,fun q hq=> (Nat.lt_succ_iff_lt_or_eq.1 (show q < 5+1 from hq)).elim (HQ.out q) (fun h=> (by rw [h];exact HR.out)),(by have h:=HO2.out;rw [HCs.out (by simp)] at h;exact h),(by have h:=HP2.out;rw [HTs.out (by simp)] at h;exact h),HS.out.trans HS2.out⟩
    case measure=> simp [intOf]
   ·skip
    go_wp2_with fail
    refine Hc.out.mono ?_
    rintro e w2 ⟨rfl,o1,o2,s2⟩
    have HO2:=Q00 o1
    have HP2:=Q00 o2
    have HS2:=Q00 s2
    clear o1 o2 s2 Hc
    go_wp2
    go_ret
    exact ⟨5,by decide,HQ.out,by rw [HR.out];exact h1,by rw [HR.out];rfl,by rw [HCR.out];exact HO2.out,by rw [HTR.out];exact HP2.out,HB1.out.trans HS2.out⟩
  |6,_=>
   have hix:=Q8D
   have hc:=Q6B g h c1 c2 mc mt o3 n3 c3 bg fg gl cg k i l d a p f s st now sb sf lo mid hi wr hk hgl hfl hc0 hc16 ht0 ht16 hn0 hn1 hst0 hst1 hn3 hpk hok hgm hmh hhi HO.out HP.out (by omega) t0 t1
   clear t0 t1
   obtain ⟨r,hr⟩:∃q,rv mc mt i l d a p f s st now sb sf k gl 6=q:=⟨_,rfl⟩
   obtain ⟨cR,hcR⟩:∃q,rc mc mt i l d a p f s st now sb sf k gl 6=q:=⟨_,rfl⟩
   obtain ⟨tR,htR⟩:∃q,rt mc mt i l d a p f s st now sb sf k gl 6=q:=⟨_,rfl⟩
   rw [hr,hcR,htR] at hc
   have Hc:=Q00 hc
   have HR:=Q00 hr
   have HCR:=Q00 hcR
   have HTR:=Q00 htR
   clear hc hr hcR htR
   obtain rfl:(1:Int)=r:=HR.out
   have h1:¬((1:Int)= -1):=by decide
   go_wp2_with fail
   refine Hc.out.mono ?_
   rintro e w2 ⟨rfl,o1,o2,s2⟩
   have HO2:=Q00 o1
   have HP2:=Q00 o2
   have HS2:=Q00 s2
   clear o1 o2 s2 Hc
   go_wp2
   go_ret
   exact ⟨6,by decide,HQ.out,by rw [HR.out];exact h1,by rw [HR.out];rfl,by rw [HCR.out];exact HO2.out,by rw [HTR.out];exact HP2.out,HB1.out.trans HS2.out⟩
end Go.Proofs.Ytljogkoaaidlcaa
