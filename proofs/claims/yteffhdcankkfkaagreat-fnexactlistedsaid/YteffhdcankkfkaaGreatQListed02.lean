/- Several texts in one: Bytes, LBytes, LMark, Boxes, SPacket, LPacket, SOpens, SNoP. -/
import Derived.RegionTactic
import Derived.Deep.QuietTactic
import Derived.BigQuiet
import Derived.Test.YteffhdcankkfkaaGreatQListed01
namespace Go.Proofs.YteffhdcankkfkaaGreat
open Go.ChangeShapes Go.WideShapes Go.ChangeAt Go.RowKit Go.Joins
set_option linter.unusedVariables false
set_option linter.unusedSimpArgs false
set_option maxRecDepth 100000
set_option maxHeartbeats 40000000
def Rd (w:World) (o:Option Addr) (l:List Int):Prop:=
 l=[]\/∃b off,o=some ⟨b,off,none⟩/\b < w.heap.size/\∀i,i < l.length->w.cell? ⟨b,off+i,none⟩=some (.int .u8 (l.getD i 0))
def isB (l:List Int):Prop:=∀n∈l,0<=n/\n<=255
theorem Rd.kept {w f:World} {o:Option Addr} {l:List Int} (h:Rd w o l) (d:Below w.heap.size w f):Rd f o l:=by
 rcases h with h|⟨b,c,j,a,g⟩
 ·exact .inl h
 ·exact .inr ⟨b,c,j,Kbq a d.size,fun i hi=>(d.cell (p:=⟨b,c+i,none⟩) a).trans (g i hi)⟩
abbrev ownB (w:World) (base:Nat) (v:Value) (l:List Int):Prop:=w.ownsRow base 5 1 v l.length (l.map (Value.int .u8))
theorem ownB.rd {w:World} {base g n cap:Nat} {l:List Int} (h:ownB w base (.slice (some ⟨g,0,none⟩) n cap) l):Rd w (some ⟨g,0,none⟩) l:=by
 have d:n=l.length:=by
  rcases h.2 with⟨a,_⟩|⟨f,b,c,a,_⟩
  ·simp at a
  ·simp at a;exact a.2.1
 subst d;refine .inr ⟨g,0,rfl, ?_,fun i hi=>?_⟩
 ·exact(h.lt g rfl).2
 ·have:=h.cellAt i (by omega)
  rw[Nat.zero_add,this];simp[hi]
theorem ownB.open {w:World} {base:Nat} {v:Value} {l:List Int} (h:ownB w base v l):∃o cap,v=.slice o l.length cap/\Rd w o l:=by
 have b:=h
 rcases h.2 with⟨c,h2⟩|⟨g,cap,a,hv,_⟩
 ·have e:l=[]:=List.eq_nil_of_length_eq_zero h2
  subst e;exact⟨none,0,by simpa using c,.inl rfl⟩
 ·subst hv
  exact⟨_,cap,rfl,b.rd⟩
theorem Rd.news {w:World} {f:Addr} {l:List Int} (h:Rd w (some f) l):∀j u,(l.map (Value.int .u8))[j]? =some u->w.cell? (f.add j)=some u:=by
 intro j u d
 rcases h with h|⟨b,c,k,_,i⟩
 ·subst h;simp at d
 ·cases k
  have a:j < l.length:=by
   rcases Nat.lt_or_ge j l.length with h|h
   ·exact h
   ·simp[List.getElem?_eq_none h]at d
  have g:(⟨b,c,none⟩:Addr).add j=⟨b,c+j,none⟩:=by by_cases h:j=0 <;> simp[Addr.add,h]
  rw[g,i j a]
  simpa[a]using d
theorem Rd.nil {w:World} {l:List Int} (h:Rd w none l):l=[]:=by
 rcases h with h|⟨b,off,ho,_⟩
 ·exact h
 ·cases ho
def RdB (C:Nat) (w:World) (o:Option Addr) (l:List Int):Prop:=
 l=[]\/∃b off,o=some ⟨b,off,none⟩/\b < C/\∀i,i < l.length->w.cell? ⟨b,off+i,none⟩=some (.int .u8 (l.getD i 0))
theorem Q0a {w b:World} {base:Nat} {e:TypeId} {size:Nat} {v:Value} {n:Nat} {xs:List Value} (h:w.ownsRow base e size v n xs) (a:Below w.heap.size w b):b.ownsRow base e size v n xs:=
 h.kept (row:=none) ⟨a.os,a.tape,a.output,a.size,fun k c _=>a.block k c⟩ (by cases v.ownBlock <;> simp)
theorem Q5J {H:Type} {enc:TypeId × Value->H} {W:World} {k:Nat} {cs:List Value} {x:DataW H × List MemPlace} (h:DataW.trod enc Tryz.prog W 0 (fun _=>true) true k 106 cs=some x):
  ∃(o:Option Addr) (cap:Nat) (l:List Int),cs=[.slice o l.length cap]/\l.length<=maxLen/\Rd W o l/\isB l:=by
 rcases open_ints Tryz.underlying106 Tryz.underlying5 (by kernel_rfl) h with⟨f,_⟩|⟨a,len,cap,j,f,_,z,A,w,_,c,s⟩
 ·exact⟨none,0,[],f,Kcq _,.inl rfl,fun n q=>by cases q⟩
 ·have y:j.length=cap:=by simpa using w
  have r:(j.take len).length=len:=by simp;omega
  refine⟨some a,cap,j.take len,by rw[r];exact f,by omega, ?_, ?_⟩
  ·by_cases h0:len=0
   ·left;simp[h0]
   ·right
    obtain⟨b,d,m⟩:=a;have t:=c 0 (by omega)
    have g:m=none:=by simpa[Addr.add]using World.cell?_spot t
    subst g;refine⟨b,d,rfl, ?_,fun i hi=>?_⟩
    ·have p:W.cell? ⟨b,d,none⟩=some (.int .u8 (j.getD 0 0)):=by simpa[Addr.add]using t
     rcases Nat.lt_or_ge b W.heap.size with h|h
     ·exact h
     ·simp[World.cell?,Array.getElem?_eq_none h]at p
    ·have v:=c i (by omega)
     have e:(j.take len).getD i 0=j.getD i 0:=by
      have:i < len:=by omega
      simp[KFq,List.getElem?_take,this]
     have u:(⟨b,d,none⟩:Addr).add i=⟨b,d+i,none⟩:=by by_cases h:i=0 <;> simp[Addr.add,h]
     rw[e,<-u];exact v
  ·intro n q
   have:=s n (List.mem_of_mem_take q)
   simpa[Lit.wf,IntKind.min,IntKind.max,IntKind.signed,IntKind.bits]using this
theorem QgS:(Tryz.prog.info? 5).map (fun i=>(i.zero,i.size,i.bytes))=some (some (.int .u8 0),1,1):=by kernel_rfl
theorem QhH (l:List Int) (k:Nat) (h:k < l.length):l.getD k 0=l[k]:=by simp[h]
theorem Q1c (l:List Int) (k:Nat) (h:k < l.length):l.take (k+1)=l.take k++[l.getD k 0]:=by
 rw[List.take_succ_eq_append_getElem h,QhH l k h]
def Q2O (l:List Int) (k:Nat):List Int:=l.take k++List.replicate (l.length - k) 0
theorem Q8n (l:List Int) (k:Nat) (h:k<=l.length):(Q2O l k).length=l.length:=by simp[Q2O];omega
theorem Qb2 (l:List Int):Q2O l 0=List.replicate l.length 0:=by simp[Q2O]
theorem Qdq (l:List Int):Q2O l l.length=l:=by simp[Q2O]
theorem Qd6 (l:List Int) (k:Nat) (h:k < l.length):((Q2O l k).map (Value.int .u8)).set k (.int .u8 (l.getD k 0))=(Q2O l (k+1)).map (Value.int .u8):=by
 rw[<-List.map_set]
 congr 1
 have a:l.length - k=(l.length - (k+1))+1:=by omega
 have b:(l.take k).length=k:=by simp;omega
 unfold Q2O;rw[a,List.replicate_succ,List.set_append_right _ _ (by omega),b,Nat.sub_self,List.set_cons_zero,List.take_succ_eq_append_getElem h]
 have c:l.getD k 0=l[k]:=by simp[h]
 rw[c,List.append_assoc]
 rfl
theorem Qez {w wr:World} {g:Nat} {l:List Int} {k:Nat} (d:k < l.length) (c:w.heap.size<=g) (a:wr.ownsRow w.heap.size 5 1 (.slice (some ⟨g,0,none⟩) l.length l.length) l.length ((Q2O l k).map (Value.int .u8)))
  (b:Below w.heap.size w wr):(wr.setCell ⟨g,k,none⟩ (.int .u8 (l.getD k 0))).ownsRow w.heap.size 5 1 (.slice (some ⟨g,0,none⟩) l.length l.length) l.length ((Q2O l (k+1)).map (Value.int .u8))/\
   Below w.heap.size w (wr.setCell ⟨g,k,none⟩ (.int .u8 (l.getD k 0))):=by
 have h:=(a.stored k (.int .u8 (l.getD k 0))).1;rw[Qd6 l k d]at h;exact⟨h,b.setCell c _⟩
theorem Q6L (o:Option Addr) (len cap:Nat) (n:Int) (w:World) (a:len<=maxLen) (c:0<=n) (d:n<=1048576):
  Calls Tryz.prog 227 #[.slice o len cap,.int .i64 n] w fun e b=>e=.returned (.int .i64 (if n - len < 0 then -1 else n - len))/\w=b:=by
 unfold maxLen at a
 by_cases h:n - len < 0
 ·rw[if_pos h]
  go_enter Tryz.func227,Tryz.ntmps227;go_wp2;go_ret;exact⟨rfl,rfl⟩
 ·rw[if_neg h]
  go_enter Tryz.func227,Tryz.ntmps227;go_wp2;go_ret;exact⟨rfl,rfl⟩
theorem Qb0 (o:Option Addr) (cap:Nat) (l:List Int) (w:World) (r:Rd w o l) (E:isB l) (B:l.length<=1048576):
  Calls Tryz.prog 228 #[.slice o l.length cap] w fun e C=> ∃g,e=.returned (.slice (some ⟨g,0,none⟩) l.length l.length)/\ownB C w.heap.size (.slice (some ⟨g,0,none⟩) l.length l.length) l/\Below w.heap.size w C:=by
 obtain⟨H,hi,t,v,y⟩:=info_parts QgS;have A:Below w.heap.size w w:=KBq;go_enter Tryz.func228,Tryz.ntmps228;go_wp2_with (at_make;refine wpList_make_full _ rfl _ _ 106 rfl w.heap.size 5 H (.int .u8 0) 1 Tryz.underlying106 hi t v _ _ _ _ l.length rfl rfl rfl rfl ?b2 ?b3 ?b4 ?_)
 case b2=>rw[y];omega
 case b3=>unfold maxLen;omega
 case b4=>simp
 intro D a c;have m:Below w.heap.size w D:=A.grown c (Kaq _) (fun k h=>by cases h)
 have d:D.ownsRow w.heap.size 5 1 (.slice (some ⟨w.heap.size,0,none⟩) l.length l.length) l.length ((Q2O l 0).map (Value.int .u8)):=by
  rw[Qb2];simpa[toList_madeCells_one,Value.cells]using a
 clear a c A;go_wp2
 go_loopw [4] (fun i wr=> ∃k:Nat,k<=l.length/\i=.int .i64 k/\wr.ownsRow w.heap.size 5 1 (.slice (some ⟨w.heap.size,0,none⟩) l.length l.length) l.length ((Q2O l k).map (Value.int .u8))/\Below w.heap.size w wr)
  (fun i _=>l.length - (intOf i).toNat)
 case atStart=>exact⟨0,Kcq _,rfl,d,m⟩
 case round=>
  obtain⟨k,G,rfl,a,f⟩:=hrel
  by_cases hlt:k < l.length
  ·rcases r with r|⟨b,q,rfl,s,j⟩
   ·subst r;simp at hlt
   have I:wr.cell? ⟨b,q+k,none⟩=some (.int .u8 (l.getD k 0)):=(f.cell (p:=⟨b,q+k,none⟩) s).trans (j k hlt);have n:=a.cellAt k (by omega);have F:=a.frozenAt k;obtain⟨u,J⟩:∃u,wr.cell? ⟨w.heap.size,k,none⟩=some u:=⟨_,n.trans (KGq (by simp[Q8n l k G];omega))⟩;have R:=Qez (g:=w.heap.size) hlt (Kaq _) a f;have z:=Q00 R;clear R a f n m d;generalize hx:l.getD k 0=x at *;go_wp2;go_roundw
   case rel=>exact⟨k+1,by omega,by go_num,z.out.1,z.out.2⟩
   case measure=>simp[intOf];omega
  ·have e:k=l.length:=by omega
   subst e;rw[Qdq]at a;go_wp2;go_ret;exact⟨w.heap.size,rfl,a,f⟩
theorem QbU (D E:Option Addr) (I J:Nat) (a l2:List Int) (w:World) (u:Rd w D a) (h2:Rd w E l2) (P:a.length<=1048576) (R:l2.length<=1048576):
  Calls Tryz.prog 224 #[.slice D a.length I,.slice E l2.length J] w fun e T=>e=.returned (.bool (decide (a=l2)))/\Below w.heap.size w T:=by
 by_cases hlen:a.length=l2.length
 ·have A:((a.length:Int) !=(l2.length:Int))=false:=by simp[hlen]
  have U:=Q00 hlen
  have m:a.length<=l2.length:=by omega
  have O:l2.length<=a.length:=by omega
  clear hlen;go_enter Tryz.func224,Tryz.ntmps224;go_wp2
  go_loopw [5] (fun i wr=> ∃k:Nat,k<=a.length/\i=.int .i64 k/\a.take k=l2.take k/\Below w.heap.size w wr)
   (fun i _=>a.length - (intOf i).toNat)
  case atStart=>exact⟨0,Kcq _,rfl,rfl,KBq⟩
  case round=>
   obtain⟨k,V,rfl,f,d⟩:=hrel;have H:=Q00 f
   by_cases hlt:k < a.length
   ·rcases u with u|⟨B,g,rfl,v,b⟩
    ·subst u;simp at hlt
    rcases h2 with h2|⟨C,j,rfl,z,c⟩
    ·subst h2;simp at m;simp[m]at hlt
    have n:k < l2.length:=by omega
    have M:wr.cell? ⟨B,g+k,none⟩=some (.int .u8 (a.getD k 0)):=(d.cell (p:=⟨B,g+k,none⟩) v).trans (b k hlt);have N:wr.cell? ⟨C,j+k,none⟩=some (.int .u8 (l2.getD k 0)):=(d.cell (p:=⟨C,j+k,none⟩) z).trans (c k (by omega));have r:=Q00 d;have F:=Q00 (Q1c a k hlt);have G:=Q00 (Q1c l2 k n)
    have q:a=l2->a.getD k 0=l2.getD k 0:=fun h=>by rw[h]
    have l:=Q00 q;clear q b c
    have X:(k:Int) < (a.length:Int):=by omega
    have Y:(k:Int) < (l2.length:Int):=by omega
    generalize a.getD k 0=x at *;generalize l2.getD k 0=y at *;clear f d
    by_cases hxy:x=y
    ·have L:(x !=y)=false:=by simp[hxy]
     have t:=Q00 hxy;clear hxy l;go_wp2
     go_quiet (fail)
     go_wp2;go_roundw
     case rel=>
      refine⟨k+1,by omega,by go_num, ?_, ?_⟩
      ·rw[F.out,G.out,H.out,t.out]
      ·exact below_drewN r.out _
     case measure=>simp[intOf];omega
    ·have L:(x !=y)=true:=by simp[hxy]
     have t:Hid (a≠l2):=fun h=>hxy (l.out h)
     clear hxy l F G;go_wp2
     go_quiet (fail)
     go_wp2;go_ret;exact⟨Q03 (decide_eq_false t.out).symm,below_drewN r.out _⟩
   ·have e:a=l2:=by
     have:=f;rw[List.take_of_length_le (by omega),List.take_of_length_le (by omega)]at this;exact this
    have s:=Q00 e;have r:=Q00 d;clear e f d;go_wp2;go_ret;exact⟨Q03 (decide_eq_true s.out).symm,r.out⟩
 ·have A:((a.length:Int) !=(l2.length:Int))=true:=by simp;omega
  have s:Hid (a≠l2):=fun h=>hlen (by rw[h])
  go_enter Tryz.func224,Tryz.ntmps224;go_wp2;go_ret;exact⟨Q03 (decide_eq_false s.out).symm,KBq⟩
theorem Q9O (a b:Option Addr) (c d:Nat) (l:List Int) (w:World) (g:Rd w a l) (h2:Rd w b l) (f:l.length<=1048576):
  Calls Tryz.prog 224 #[.slice a l.length c,.slice b l.length d] w fun e h=>e=.returned (.bool true)/\Below w.heap.size w h:=by
 have:=QbU a b c d l l w g h2 f f
 simpa using this
def Q5u (k:Int) (n:Nat):List Int:=(List.range n).map (fun (i:Nat)=>(k+(i:Int)) % 256)
theorem Q5y (k:Int) (n:Nat):(Q5u k n).length=n:=by simp[Q5u]
def Q2L (l:List Int) (k:Int) (i:Nat):List Int:=Q5u k i++l.drop i
theorem QbO (l:List Int) (k:Int):Q2L l k 0=l:=by simp[Q2L,Q5u]
theorem QdJ (l:List Int) (k:Int):Q2L l k l.length=Q5u k l.length:=by simp[Q2L]
theorem Q8U (l:List Int) (k:Int) (i:Nat) (h:i<=l.length):(Q2L l k i).length=l.length:=by simp[Q2L,Q5u];omega
theorem Qdc (l:List Int) (k:Int) (i:Nat) (h:i < l.length):((Q2L l k i).map (Value.int .u8)).set i (.int .u8 ((k+(i:Int)) % 256))=(Q2L l k (i+1)).map (Value.int .u8):=by
 rw[<-List.map_set]
 congr 1
 have a:(Q5u k i).length=i:=Q5y k i;unfold Q2L;rw[List.drop_eq_getElem_cons h,List.set_append_right _ _ (by omega),a,Nat.sub_self,List.set_cons_zero]
 have b:Q5u k (i+1)=Q5u k i++[(k+(i:Int)) % 256]:=by simp[Q5u,List.range_succ]
 rw[b,List.append_assoc]
 rfl
theorem QeZ {w wr:World} {base g cap:Nat} {l:List Int} {k:Int} {i:Nat} (hi:i < l.length) (c:wr.ownsRow base 5 1 (.slice (some ⟨g,0,none⟩) l.length cap) l.length ((Q2L l k i).map (Value.int .u8)))
  (a:w.grownBy wr (some g)):(wr.setCell ⟨g,i,none⟩ (.int .u8 ((k+(i:Int)) % 256))).ownsRow base 5 1 (.slice (some ⟨g,0,none⟩) l.length cap) l.length ((Q2L l k (i+1)).map (Value.int .u8))/\
   w.grownBy (wr.setCell ⟨g,i,none⟩ (.int .u8 ((k+(i:Int)) % 256))) (some g):=by
 have h:=c.stored i (.int .u8 ((k+(i:Int)) % 256));rw[Qdc l k i hi]at h;exact⟨h.1,⟨a.os,a.tape,a.output,by have:=h.2.size;have:=a.size;omega,fun j d b=>(h.2.block j (Kbq d a.size) b).trans (a.block j d b)⟩⟩
theorem Q95 (base:Nat) (v:Value) (l:List Int) (k:Int) (w:World) (hv:ownB w base v l) (r:0<=k) (s:k<=1073741824) (f:l.length<=1048576):
  Calls Tryz.prog 89 #[v,.int .i64 k] w fun e h=>e=.returned (.int .i64 (k+l.length))/\ownB h base v (Q5u k l.length)/\w.grownBy h v.ownBlock:=by
 rcases hv.2 with⟨rfl,h2⟩|⟨g,cap,p,rfl,t,_⟩
 ·have e:l=[]:=List.eq_nil_of_length_eq_zero h2
  subst e;go_enter Tryz.func89,Tryz.ntmps89;go_wp2;refine wp_loop_rounds 1 ?_;rw[rounds_succ];go_wp2;go_ret;exact⟨by simp,by simpa[Q5u]using hv,World.grownBy.refl _ _⟩
 ·go_enter Tryz.func89,Tryz.ntmps89
  go_wp2
  have d:w.ownsRow base 5 1 (.slice (some ⟨g,0,none⟩) l.length cap) l.length ((Q2L l k 0).map (Value.int .u8)):=by rw[QbO];exact hv
  go_loopw [1,5] (fun m j wr=> ∃i:Nat,i<=l.length/\j=.int .i64 i/\m=.int .i64 (k+(i:Int))/\wr.ownsRow base 5 1 (.slice (some ⟨g,0,none⟩) l.length cap) l.length ((Q2L l k i).map (Value.int .u8))/\w.grownBy wr (some g))
   (fun _ j _=>l.length - (intOf j).toNat)
  case atStart=>exact⟨0,Kcq _,rfl,by simp,d,World.grownBy.refl _ _⟩
  case round=>
   obtain⟨i,hi,rfl,rfl,a,b⟩:=hrel
   by_cases hlt:i < l.length
   ·have c:=a.cellAt i (by omega)
    have q:=a.frozenAt i;obtain⟨u,x⟩:∃u,wr.cell? ⟨g,i,none⟩=some u:=⟨_,c.trans (KGq (by simp[Q8U l k i hi];omega))⟩;have R:=Q00 (QeZ hlt a b);clear c a b hv d;go_wp2;go_roundw
    case rel=>exact⟨i+1,by omega,by go_num,by go_num,R.out.1,R.out.2⟩
    case measure=>simp[intOf];omega
   ·have e:i=l.length:=by omega
    subst e;rw[QdJ]at a;have n:=Q00 a;clear a;go_wp2;go_ret;exact⟨rfl,by unfold ownB;rw[Q5y];exact n.out,b⟩
abbrev pkt (a b f s:Int) (v:Value):Value:=.agg #[.int .i64 a,.int .i64 b,.int .i64 f,.int .i64 s,v]
def boxed (k:Nat) (a b f s:Int) (v:Value) (w:World):Prop:=
 w.cell? ⟨k,0,none⟩=some (.int .i64 a)/\w.cell? ⟨k,1,none⟩=some (.int .i64 b)/\w.cell? ⟨k,2,none⟩=some (.int .i64 f)/\w.cell? ⟨k,3,none⟩=some (.int .i64 s)/\w.cell? ⟨k,4,none⟩=some v
theorem boxed.kept {k:Nat} {a b f s:Int} {v:Value} {w g:World} {B:Nat} (h:boxed k a b f s v w) (c:Below B w g) (d:k < B):boxed k a b f s v g:=
 ⟨(c.cell (p:=⟨k,0,none⟩) d).trans h.1,(c.cell (p:=⟨k,1,none⟩) d).trans h.2.1,(c.cell (p:=⟨k,2,none⟩) d).trans h.2.2.1,(c.cell (p:=⟨k,3,none⟩) d).trans h.2.2.2.1,(c.cell (p:=⟨k,4,none⟩) d).trans h.2.2.2.2⟩
def empty5 (k:Nat) (w:World):Prop:=boxed k 0 0 0 0 (.slice none 0 0) w/\(w.frozen? ⟨k,0,none⟩=false/\w.frozen? ⟨k,1,none⟩=false/\w.frozen? ⟨k,2,none⟩=false/\w.frozen? ⟨k,3,none⟩=false/\w.frozen? ⟨k,4,none⟩=false)
theorem empty5.kept {k:Nat} {w c:World} {B:Nat} (h:empty5 k w) (a:Below B w c) (b:k < B):empty5 k c:=
 ⟨h.1.kept a b,(a.frozen (p:=⟨k,0,none⟩) b).trans h.2.1,(a.frozen (p:=⟨k,1,none⟩) b).trans h.2.2.1,(a.frozen (p:=⟨k,2,none⟩) b).trans h.2.2.2.1,(a.frozen (p:=⟨k,3,none⟩) b).trans h.2.2.2.2.1,(a.frozen (p:=⟨k,4,none⟩) b).trans h.2.2.2.2.2⟩
theorem Qdh (w:World) (e:TypeId):empty5 w.heap.size (w.alloc (.cells #[.int .i64 0,.int .i64 0,.int .i64 0,.int .i64 0,.slice none 0 0] e)):=by
 unfold empty5 boxed;simp
def Q0l (a b f s:Int) (n:Nat):Bool:=
 Q0g a b && decide (0<=f) && decide (f < 16) && decide (0<=s) && decide (s < 65536) && decide ((n:Int)<=16) && (bits .and .i64 f 1==0||bits .and .i64 f 12==0)
theorem Q0P {a b f s:Int} {n:Nat}:Q0l a b f s n=true↔Q0g a b=true/\0<=f/\f < 16/\0<=s/\s < 65536/\(n:Int)<=16/\(bits .and .i64 f 1=0\/bits .and .i64 f 12=0):=by
 simp[Q0l,and_assoc]
theorem Q4q {a b f s:Int} {n:Nat} (c:Q0g a b=true) (h2:0<=f) (d:f < 16) (g:0<=s) (h:s < 65536) (i:(n:Int)<=16):Q0l a b f s n=(bits .and .i64 f 1==0||bits .and .i64 f 12==0):=by
 simp[Q0l,c,h2,d,g,h,i]
theorem Q3e (a b f s:Int) (o:Option Addr) (len cap:Nat) (w:World) (r:len<=maxLen):
  Calls Tryz.prog 179 #[pkt a b f s (.slice o len cap)] w fun e p=>e=.returned (.bool (Q0l a b f s len))/\Below w.heap.size w p:=by
 have c:Below w.heap.size w w:=KBq
 by_cases h1:Q0g a b=true
 ·by_cases h2:0<=f
  ·by_cases h3:f < 16
   ·by_cases h4:0<=s
    ·by_cases h5:s < 65536
     ·by_cases h6:(len:Int)<=16
      ·by_cases h7:bits .and .i64 f 1=0
       ·have m:=Q00 (show true=Q0l a b f s len by rw[Q4q h1 h2 h3 h4 h5 h6];simp[h7])
        go_enter Tryz.func179,Tryz.ntmps179;go_wp2_with (first|(go_at_call 64;refine(Q0s _ _ _).mono ?_;rintro e g ⟨rfl,d⟩;obtain⟨k,l⟩:=Q0F d;have i:w.heap.size < g.heap.size:=(by have h:=d.size;(try simp at h);omega);have c:Below w.heap.size w g:=(by refine Below.trans ?_ (d.mono (by have hs:=c.size;(try simp) <;> omega));(repeat (first|with_reducible (first|exact c|exact KBq|refine KHq ?_|refine below_drewN ?_ _|refine KOq ?_ ?_ _|refine KNq ?_ ?_ _)|(focus (simp;first|done|omega))|omega)))));go_ret
        exact⟨Q03 m.out,by(repeat (first|with_reducible (first|exact c|exact KBq|refine KHq ?_|refine below_drewN ?_ _|refine KOq ?_ ?_ _|refine KNq ?_ ?_ _)|(focus (simp;first|done|omega))|omega))⟩
       ·have m:=Q00 (Q4q (a:=a) (b:=b) (f:=f) (s:=s) (n:=len) h1 h2 h3 h4 h5 h6).symm
        go_enter Tryz.func179,Tryz.ntmps179;go_wp2_with (first|(go_at_call 64;refine(Q0s _ _ _).mono ?_;rintro e g ⟨rfl,d⟩;obtain⟨k,l⟩:=Q0F d;have i:w.heap.size < g.heap.size:=(by have h:=d.size;(try simp at h);omega);have c:Below w.heap.size w g:=(by refine Below.trans ?_ (d.mono (by have hs:=c.size;(try simp) <;> omega));(repeat (first|with_reducible (first|exact c|exact KBq|refine KHq ?_|refine below_drewN ?_ _|refine KOq ?_ ?_ _|refine KNq ?_ ?_ _)|(focus (simp;first|done|omega))|omega)))));go_ret
        exact⟨Q03 m.out,by(repeat (first|with_reducible (first|exact c|exact KBq|refine KHq ?_|refine below_drewN ?_ _|refine KOq ?_ ?_ _|refine KNq ?_ ?_ _)|(focus (simp;first|done|omega))|omega))⟩
      ·have j:=Q00 (Q13 (Q0P (a:=a) (b:=b) (f:=f) (s:=s) (n:=len)) (fun q=>h6 q.2.2.2.2.2.1))
       go_enter Tryz.func179,Tryz.ntmps179;go_wp2_with (first|(go_at_call 64;refine(Q0s _ _ _).mono ?_;rintro e g ⟨rfl,d⟩;obtain⟨k,l⟩:=Q0F d;have i:w.heap.size < g.heap.size:=(by have h:=d.size;(try simp at h);omega);have c:Below w.heap.size w g:=(by refine Below.trans ?_ (d.mono (by have hs:=c.size;(try simp) <;> omega));(repeat (first|with_reducible (first|exact c|exact KBq|refine KHq ?_|refine below_drewN ?_ _|refine KOq ?_ ?_ _|refine KNq ?_ ?_ _)|(focus (simp;first|done|omega))|omega)))));go_ret
       exact⟨Q03 j.out,by(repeat (first|with_reducible (first|exact c|exact KBq|refine KHq ?_|refine below_drewN ?_ _|refine KOq ?_ ?_ _|refine KNq ?_ ?_ _)|(focus (simp;first|done|omega))|omega))⟩
     ·have j:=Q00 (Q13 (Q0P (a:=a) (b:=b) (f:=f) (s:=s) (n:=len)) (fun q=>h5 q.2.2.2.2.1))
      go_enter Tryz.func179,Tryz.ntmps179;go_wp2_with (first|(go_at_call 64;refine(Q0s _ _ _).mono ?_;rintro e g ⟨rfl,d⟩;obtain⟨k,l⟩:=Q0F d;have i:w.heap.size < g.heap.size:=(by have h:=d.size;(try simp at h);omega);have c:Below w.heap.size w g:=(by refine Below.trans ?_ (d.mono (by have hs:=c.size;(try simp) <;> omega));(repeat (first|with_reducible (first|exact c|exact KBq|refine KHq ?_|refine below_drewN ?_ _|refine KOq ?_ ?_ _|refine KNq ?_ ?_ _)|(focus (simp;first|done|omega))|omega)))));go_ret
      exact⟨Q03 j.out,by(repeat (first|with_reducible (first|exact c|exact KBq|refine KHq ?_|refine below_drewN ?_ _|refine KOq ?_ ?_ _|refine KNq ?_ ?_ _)|(focus (simp;first|done|omega))|omega))⟩
    ·have j:=Q00 (Q13 (Q0P (a:=a) (b:=b) (f:=f) (s:=s) (n:=len)) (fun q=>h4 q.2.2.2.1))
     go_enter Tryz.func179,Tryz.ntmps179;go_wp2_with (first|(go_at_call 64;refine(Q0s _ _ _).mono ?_;rintro e g ⟨rfl,d⟩;obtain⟨k,l⟩:=Q0F d;have i:w.heap.size < g.heap.size:=(by have h:=d.size;(try simp at h);omega);have c:Below w.heap.size w g:=(by refine Below.trans ?_ (d.mono (by have hs:=c.size;(try simp) <;> omega));(repeat (first|with_reducible (first|exact c|exact KBq|refine KHq ?_|refine below_drewN ?_ _|refine KOq ?_ ?_ _|refine KNq ?_ ?_ _)|(focus (simp;first|done|omega))|omega)))));go_ret
     exact⟨Q03 j.out,by(repeat (first|with_reducible (first|exact c|exact KBq|refine KHq ?_|refine below_drewN ?_ _|refine KOq ?_ ?_ _|refine KNq ?_ ?_ _)|(focus (simp;first|done|omega))|omega))⟩
   ·have j:=Q00 (Q13 (Q0P (a:=a) (b:=b) (f:=f) (s:=s) (n:=len)) (fun q=>h3 q.2.2.1))
    go_enter Tryz.func179,Tryz.ntmps179;go_wp2_with (first|(go_at_call 64;refine(Q0s _ _ _).mono ?_;rintro e g ⟨rfl,d⟩;obtain⟨k,l⟩:=Q0F d;have i:w.heap.size < g.heap.size:=(by have h:=d.size;(try simp at h);omega);have c:Below w.heap.size w g:=(by refine Below.trans ?_ (d.mono (by have hs:=c.size;(try simp) <;> omega));(repeat (first|with_reducible (first|exact c|exact KBq|refine KHq ?_|refine below_drewN ?_ _|refine KOq ?_ ?_ _|refine KNq ?_ ?_ _)|(focus (simp;first|done|omega))|omega)))));go_ret
    exact⟨Q03 j.out,by(repeat (first|with_reducible (first|exact c|exact KBq|refine KHq ?_|refine below_drewN ?_ _|refine KOq ?_ ?_ _|refine KNq ?_ ?_ _)|(focus (simp;first|done|omega))|omega))⟩
  ·have j:=Q00 (Q13 (Q0P (a:=a) (b:=b) (f:=f) (s:=s) (n:=len)) (fun q=>h2 q.2.1))
   go_enter Tryz.func179,Tryz.ntmps179;go_wp2_with (first|(go_at_call 64;refine(Q0s _ _ _).mono ?_;rintro e g ⟨rfl,d⟩;obtain⟨k,l⟩:=Q0F d;have i:w.heap.size < g.heap.size:=(by have h:=d.size;(try simp at h);omega);have c:Below w.heap.size w g:=(by refine Below.trans ?_ (d.mono (by have hs:=c.size;(try simp) <;> omega));(repeat (first|with_reducible (first|exact c|exact KBq|refine KHq ?_|refine below_drewN ?_ _|refine KOq ?_ ?_ _|refine KNq ?_ ?_ _)|(focus (simp;first|done|omega))|omega)))));go_ret
   exact⟨Q03 j.out,by(repeat (first|with_reducible (first|exact c|exact KBq|refine KHq ?_|refine below_drewN ?_ _|refine KOq ?_ ?_ _|refine KNq ?_ ?_ _)|(focus (simp;first|done|omega))|omega))⟩
 ·have j:=Q00 (Q13 (Q0P (a:=a) (b:=b) (f:=f) (s:=s) (n:=len)) (fun q=>h1 q.1))
  go_enter Tryz.func179,Tryz.ntmps179;go_wp2_with (first|(go_at_call 64;refine(Q0s _ _ _).mono ?_;rintro e g ⟨rfl,d⟩;obtain⟨k,l⟩:=Q0F d;have i:w.heap.size < g.heap.size:=(by have h:=d.size;(try simp at h);omega);have c:Below w.heap.size w g:=(by refine Below.trans ?_ (d.mono (by have hs:=c.size;(try simp) <;> omega));(repeat (first|with_reducible (first|exact c|exact KBq|refine KHq ?_|refine below_drewN ?_ _|refine KOq ?_ ?_ _|refine KNq ?_ ?_ _)|(focus (simp;first|done|omega))|omega)))));go_ret
  exact⟨Q03 j.out,by(repeat (first|with_reducible (first|exact c|exact KBq|refine KHq ?_|refine below_drewN ?_ _|refine KOq ?_ ?_ _|refine KNq ?_ ?_ _)|(focus (simp;first|done|omega))|omega))⟩
def Q3v (f:Int):Bool:=decide (0<=f) && decide (f < 16) && (bits .and .i64 f 1==0||bits .and .i64 f 12==0)
theorem Q47 {f:Int}:Q3v f=true↔0<=f/\f < 16/\(bits .and .i64 f 1=0\/bits .and .i64 f 12=0):=by simp[Q3v,and_assoc]
theorem Q6A {f:Int} (h2:0<=f) (h3:f < 16):Q3v f=(bits .and .i64 f 1==0||bits .and .i64 f 12==0):=by simp[Q3v,h2,h3]
theorem Q1l {a b f s:Int} {n:Nat}:Q0l a b f s n=true↔(Q0g a b=true/\Q3v f=true/\0<=s/\s<=65535/\(n:Int)<=16/\True):=by
 rw[Q0P,Q47]
 constructor
 ·rintro⟨c,d,g,h,k,i,j⟩;exact⟨c,⟨d,g,j⟩,h,by omega,i,trivial⟩
 ·rintro⟨c,⟨d,g,j⟩,h,k,i,_⟩;exact⟨c,d,g,h,by omega,i,j⟩
theorem Q7B {a b f s:Int} {n:Nat} (h1:Q0g a b=true) (h2:Q3v f=true) (h4:0<=s) (h5:s<=65535):decide ((n:Int)<=16)=Q0l a b f s n:=by
 rw[Bool.eq_iff_iff,Q1l];simp[h1,h2,h4,h5]
theorem Q2M (f:Int) (w:World):Calls Tryz.prog 241 #[.int .i64 f] w fun e b=>e=.returned (.bool (Q3v f))/\w=b:=by
 by_cases h2:0<=f
 ·by_cases h3:f < 16
  ·by_cases h7:bits .and .i64 f 1=0
   ·go_enter Tryz.func241,Tryz.ntmps241
    go_wp2;go_ret;exact⟨Q03 (by rw[Q6A h2 h3];simp[h7]),rfl⟩
   ·go_enter Tryz.func241,Tryz.ntmps241
    go_wp2;go_ret;exact⟨Q03 (by rw[Q6A h2 h3];simp[h7,bne]),rfl⟩
  ·have a:=Q00 (Q13 (Q47 (f:=f)) (fun q=>h3 q.2.1))
   go_enter Tryz.func241,Tryz.ntmps241;go_wp2;go_ret;exact⟨Q03 a.out,rfl⟩
 ·have a:=Q00 (Q13 (Q47 (f:=f)) (fun q=>h2 q.1))
  go_enter Tryz.func241,Tryz.ntmps241;go_wp2;go_ret;exact⟨Q03 a.out,rfl⟩
theorem Q1v (a b f s:Int) (o:Option Addr) (len cap:Nat) (w:World) (t:len<=maxLen):
  Calls Tryz.prog 218 #[pkt a b f s (.slice o len cap)] w fun e r=>e=.returned (.bool (Q0l a b f s len))/\Below w.heap.size w r:=by
 have c:Below w.heap.size w w:=KBq
 by_cases h1:Q0g a b=true
 ·by_cases h2:Q3v f=true
  ·by_cases h4:0<=s
   ·by_cases h5:s<=65535
    ·have p:=Q00 (Q7B (a:=a) (b:=b) (f:=f) (s:=s) (n:=len) h1 h2 h4 h5)
     go_enter Tryz.func218,Tryz.ntmps218
     go_wp2_with (first|(go_at_call 66;refine(Q0v _ _ _).mono ?_;rintro e g ⟨rfl,d⟩;obtain⟨k,l⟩:=Q0F d;have i:w.heap.size < g.heap.size:=(by have h:=d.size;(try simp at h);omega);have c:Below w.heap.size w g:=(by refine Below.trans ?_ (d.mono (by have hs:=c.size;(try simp) <;> omega));(repeat (first|with_reducible (first|exact c|exact KBq|refine KHq ?_|refine below_drewN ?_ _|refine KOq ?_ ?_ _|refine KNq ?_ ?_ _)|(focus (simp;first|done|omega))|omega))))|(go_at_call 241;refine(Q2M _ _).mono ?_;rintro e m ⟨rfl,rfl⟩)|go_in);go_ret
     exact⟨Q03 p.out,by(repeat (first|with_reducible (first|exact c|exact KBq|refine KHq ?_|refine below_drewN ?_ _|refine KOq ?_ ?_ _|refine KNq ?_ ?_ _)|(focus (simp;first|done|omega))|omega))⟩
    ·have j:=Q00 (Q13 (Q1l (a:=a) (b:=b) (f:=f) (s:=s) (n:=len)) (fun q=>h5 q.2.2.2.1))
     go_enter Tryz.func218,Tryz.ntmps218
     go_wp2_with (first|(go_at_call 66;refine(Q0v _ _ _).mono ?_;rintro e g ⟨rfl,d⟩;obtain⟨k,l⟩:=Q0F d;have i:w.heap.size < g.heap.size:=(by have h:=d.size;(try simp at h);omega);have c:Below w.heap.size w g:=(by refine Below.trans ?_ (d.mono (by have hs:=c.size;(try simp) <;> omega));(repeat (first|with_reducible (first|exact c|exact KBq|refine KHq ?_|refine below_drewN ?_ _|refine KOq ?_ ?_ _|refine KNq ?_ ?_ _)|(focus (simp;first|done|omega))|omega))))|(go_at_call 241;refine(Q2M _ _).mono ?_;rintro e m ⟨rfl,rfl⟩)|go_in);go_ret
     exact⟨Q03 j.out,by(repeat (first|with_reducible (first|exact c|exact KBq|refine KHq ?_|refine below_drewN ?_ _|refine KOq ?_ ?_ _|refine KNq ?_ ?_ _)|(focus (simp;first|done|omega))|omega))⟩
   ·have j:=Q00 (Q13 (Q1l (a:=a) (b:=b) (f:=f) (s:=s) (n:=len)) (fun q=>h4 q.2.2.1))
    go_enter Tryz.func218,Tryz.ntmps218
    go_wp2_with (first|(go_at_call 66;refine(Q0v _ _ _).mono ?_;rintro e g ⟨rfl,d⟩;obtain⟨k,l⟩:=Q0F d;have i:w.heap.size < g.heap.size:=(by have h:=d.size;(try simp at h);omega);have c:Below w.heap.size w g:=(by refine Below.trans ?_ (d.mono (by have hs:=c.size;(try simp) <;> omega));(repeat (first|with_reducible (first|exact c|exact KBq|refine KHq ?_|refine below_drewN ?_ _|refine KOq ?_ ?_ _|refine KNq ?_ ?_ _)|(focus (simp;first|done|omega))|omega))))|(go_at_call 241;refine(Q2M _ _).mono ?_;rintro e m ⟨rfl,rfl⟩)|go_in);go_ret
    exact⟨Q03 j.out,by(repeat (first|with_reducible (first|exact c|exact KBq|refine KHq ?_|refine below_drewN ?_ _|refine KOq ?_ ?_ _|refine KNq ?_ ?_ _)|(focus (simp;first|done|omega))|omega))⟩
  ·have j:=Q00 (Q13 (Q1l (a:=a) (b:=b) (f:=f) (s:=s) (n:=len)) (fun q=>h2 q.2.1))
   go_enter Tryz.func218,Tryz.ntmps218
   go_wp2_with (first|(go_at_call 66;refine(Q0v _ _ _).mono ?_;rintro e g ⟨rfl,d⟩;obtain⟨k,l⟩:=Q0F d;have i:w.heap.size < g.heap.size:=(by have h:=d.size;(try simp at h);omega);have c:Below w.heap.size w g:=(by refine Below.trans ?_ (d.mono (by have hs:=c.size;(try simp) <;> omega));(repeat (first|with_reducible (first|exact c|exact KBq|refine KHq ?_|refine below_drewN ?_ _|refine KOq ?_ ?_ _|refine KNq ?_ ?_ _)|(focus (simp;first|done|omega))|omega))))|(go_at_call 241;refine(Q2M _ _).mono ?_;rintro e m ⟨rfl,rfl⟩)|go_in);go_ret
   exact⟨Q03 j.out,by(repeat (first|with_reducible (first|exact c|exact KBq|refine KHq ?_|refine below_drewN ?_ _|refine KOq ?_ ?_ _|refine KNq ?_ ?_ _)|(focus (simp;first|done|omega))|omega))⟩
 ·have j:=Q00 (Q13 (Q1l (a:=a) (b:=b) (f:=f) (s:=s) (n:=len)) (fun q=>h1 q.1))
  go_enter Tryz.func218,Tryz.ntmps218
  go_wp2_with (first|(go_at_call 66;refine(Q0v _ _ _).mono ?_;rintro e g ⟨rfl,d⟩;obtain⟨k,l⟩:=Q0F d;have i:w.heap.size < g.heap.size:=(by have h:=d.size;(try simp at h);omega);have c:Below w.heap.size w g:=(by refine Below.trans ?_ (d.mono (by have hs:=c.size;(try simp) <;> omega));(repeat (first|with_reducible (first|exact c|exact KBq|refine KHq ?_|refine below_drewN ?_ _|refine KOq ?_ ?_ _|refine KNq ?_ ?_ _)|(focus (simp;first|done|omega))|omega))))|(go_at_call 241;refine(Q2M _ _).mono ?_;rintro e m ⟨rfl,rfl⟩)|go_in);go_ret
  exact⟨Q03 j.out,by(repeat (first|with_reducible (first|exact c|exact KBq|refine KHq ?_|refine below_drewN ?_ _|refine KOq ?_ ?_ _|refine KNq ?_ ?_ _)|(focus (simp;first|done|omega))|omega))⟩
theorem Q7b:Tryz.prog.cellsOf 174=5:=by kernel_rfl
theorem Q4C:Tryz.prog.cellsOf 3=1:=by kernel_rfl
theorem QdC:Tryz.prog.cellsOf 106=1:=by kernel_rfl
theorem Q5j {H:Type} {enc:TypeId × Value->H} {W:World} {c:Nat} {d g i j k:Value} {x:DataW H × List MemPlace}
  (h:DataW.trod enc Tryz.prog W 0 (fun _=>true) true c 174 [d,g,i,j,k]=some x):
  ∃(a b f s:Int) (o:Option Addr) (cap:Nat) (l:List Int),[d,g,i,j,k]=[.int .i64 a,.int .i64 b,.int .i64 f,.int .i64 s,.slice o l.length cap]/\l.length<=maxLen/\Rd W o l/\isB l:=by
 obtain⟨C,D,E,F,n,_,_,y,z,h2,A⟩:=trod_struct4 Tryz.underlying174 h;simp[Q4C,QdC,Q1L]at y z h2 A;obtain⟨G,I,B,_,_,v,w⟩:=trod_struct2 Tryz.underlying71 y;simp[Q4C]at v w;obtain⟨a,m,_,_⟩:=DataW.trod_int Tryz.underlying3 v;obtain⟨b,p,_,_⟩:=DataW.trod_int Tryz.underlying3 w;obtain⟨f,q,_,_⟩:=DataW.trod_int Tryz.underlying3 z;obtain⟨s,t,_,_⟩:=DataW.trod_int Tryz.underlying3 h2;obtain⟨o,cap,l,u,r⟩:=Q5J A;simp at m p q t u;subst m p q t u;exact⟨a,b,f,s,o,cap,l,rfl,r⟩
theorem QaI (a b f s:Int) (o:Option Addr) (len cap:Nat) (n:Int) (w:World) (i:len<=maxLen) (c:0<=n) (d:n<=1048576):
  Calls Tryz.prog 194 #[pkt a b f s (.slice o len cap),.int .i64 n] w fun e j=>e=.returned (.int .i64 (if n - len < 0 then -1 else n - len))/\Below w.heap.size w j:=by
 have g:Below w.heap.size w w:=KBq
 by_cases h:n - len < 0
 ·have hs:=Q6L o len cap n
  rw[if_pos h]at *;go_enter Tryz.func194,Tryz.ntmps194;go_wp2_with (go_at_call 227;refine(hs _ i c d).mono ?_;rintro e k ⟨rfl,rfl⟩);go_ret;exact⟨rfl,by(repeat (first|with_reducible (first|exact g|exact KBq|refine KHq ?_|refine below_drewN ?_ _|refine KOq ?_ ?_ _|refine KNq ?_ ?_ _)|(focus (simp;first|done|omega))|omega))⟩
 ·have hs:=Q6L o len cap n
  rw[if_neg h]at *;go_enter Tryz.func194,Tryz.ntmps194;go_wp2_with (go_at_call 227;refine(hs _ i c d).mono ?_;rintro e k ⟨rfl,rfl⟩);go_ret;exact⟨rfl,by(repeat (first|with_reducible (first|exact g|exact KBq|refine KHq ?_|refine below_drewN ?_ _|refine KOq ?_ ?_ _|refine KNq ?_ ?_ _)|(focus (simp;first|done|omega))|omega))⟩
theorem Q9R (a b f s:Int) (o:Option Addr) (cap:Nat) (l:List Int) (w:World) (D:Rd w o l) (z:isB l) (q:l.length<=1048576):
  Calls Tryz.prog 200 #[pkt a b f s (.slice o l.length cap)] w fun e C=> ∃g,e=.returned (pkt a b f s (.slice (some ⟨g,0,none⟩) l.length l.length))/\ownB C w.heap.size (.slice (some ⟨g,0,none⟩) l.length l.length) l/\Below w.heap.size w C:=by
 have k:Below w.heap.size w w:=KBq;go_enter Tryz.func200,Tryz.ntmps200
 go_wp2_with (first|(go_at_call 25;refine(Q1T _ _ _).mono ?_;rintro e h ⟨rfl,c⟩;obtain⟨A,E⟩:=Q0F c;have n:w.heap.size < h.heap.size:=(by have i:=c.size;(try simp at i);omega);have t:w.heap.size+1 < h.heap.size:=(by have i:=c.size;(try simp at i);omega);have x:w.heap.size+1+1 < h.heap.size:=(by have i:=c.size;(try simp at i);omega);have k:Below w.heap.size w h:=(by refine Below.trans ?_ (c.mono (by have hs:=k.size;(try simp) <;> omega));(repeat (first|with_reducible (first|exact k|exact KBq|refine KHq ?_|refine below_drewN ?_ _|refine KOq ?_ ?_ _|refine KNq ?_ ?_ _)|(focus (simp;first|done|omega))|omega))))|(go_at_call 228;refine(Qb0 o cap l _ (D.kept (by(repeat (first|with_reducible (first|exact k|exact KBq|refine KHq ?_|refine below_drewN ?_ _|refine KOq ?_ ?_ _|refine KNq ?_ ?_ _)|(focus (simp;first|done|omega))|omega)))) z q).mono ?_;rintro e j ⟨g,rfl,m,d⟩;obtain⟨B,F⟩:=Q0F d;have r:w.heap.size < j.heap.size:=(by have i:=d.size;(try simp at i);omega);have u:w.heap.size+1 < j.heap.size:=(by have i:=d.size;(try simp at i);omega);have y:w.heap.size+1+1 < j.heap.size:=(by have i:=d.size;(try simp at i);omega);have k:Below w.heap.size w j:=(by refine Below.trans ?_ (d.mono (by have hs:=k.size;(try simp) <;> omega));(repeat (first|with_reducible (first|exact k|exact KBq|refine KHq ?_|refine below_drewN ?_ _|refine KOq ?_ ?_ _|refine KNq ?_ ?_ _)|(focus (simp;first|done|omega))|omega)))))
 have p:ownB j h.heap.size (.slice (some ⟨g,0,none⟩) l.length l.length) l:=by simpa using m
 clear m d c;refine bodyPost_ret (v:=pkt a b f s (.slice (some ⟨g,0,none⟩) l.length l.length)) (by simp[results,Tryz.results200,go_sem,B,A,n,t,x,r,u,y]) rfl ⟨g,rfl, ?_, ?_⟩
 ·refine Q06 (base:=h.heap.size) ?_ (KIq n)
  repeat (refine ownsRow_setCell_below ?_ (by simp <;> omega) _)
  exact p
 ·(repeat (first|with_reducible (first|exact k|exact KBq|refine KHq ?_|refine below_drewN ?_ _|refine KOq ?_ ?_ _|refine KNq ?_ ?_ _)|(focus (simp;first|done|omega))|omega))
theorem Q8K (a b f s:Int) (k m:Option Addr) (n p:Nat) (l:List Int) (w:World) (q:Rd w k l) (h2:Rd w m l) (u:l.length<=1048576):
  Calls Tryz.prog 189 #[pkt a b f s (.slice k l.length n),pkt a b f s (.slice m l.length p)] w fun e v=>e=.returned (.bool true)/\Below w.heap.size w v:=by
 have c:Below w.heap.size w w:=KBq;go_enter Tryz.func189,Tryz.ntmps189
 go_wp2_with (first|(go_at_call 142;refine(Q33 _ _ _).mono ?_;rintro e h ⟨rfl,d⟩;obtain⟨r,t⟩:=Q0F d;have i:w.heap.size < h.heap.size:=(by have g:=d.size;(try simp at g);omega);have j:w.heap.size+1 < h.heap.size:=(by have g:=d.size;(try simp at g);omega);have c:Below w.heap.size w h:=(by refine Below.trans ?_ (d.mono (by have hs:=c.size;(try simp) <;> omega));(repeat (first|with_reducible (first|exact c|exact KBq|refine KHq ?_|refine below_drewN ?_ _|refine KOq ?_ ?_ _|refine KNq ?_ ?_ _)|(focus (simp;first|done|omega))|omega))))|(go_at_call 224;refine(Q9O k m n p l _ (q.kept (by(repeat (first|with_reducible (first|exact c|exact KBq|refine KHq ?_|refine below_drewN ?_ _|refine KOq ?_ ?_ _|refine KNq ?_ ?_ _)|(focus (simp;first|done|omega))|omega)))) (h2.kept (by(repeat (first|with_reducible (first|exact c|exact KBq|refine KHq ?_|refine below_drewN ?_ _|refine KOq ?_ ?_ _|refine KNq ?_ ?_ _)|(focus (simp;first|done|omega))|omega)))) u).mono ?_;rintro e h ⟨rfl,d⟩;obtain⟨r,t⟩:=Q0F d;have i:w.heap.size < h.heap.size:=(by have g:=d.size;(try simp at g);omega);have j:w.heap.size+1 < h.heap.size:=(by have g:=d.size;(try simp at g);omega);have c:Below w.heap.size w h:=(by refine Below.trans ?_ (d.mono (by have hs:=c.size;(try simp) <;> omega));(repeat (first|with_reducible (first|exact c|exact KBq|refine KHq ?_|refine below_drewN ?_ _|refine KOq ?_ ?_ _|refine KNq ?_ ?_ _)|(focus (simp;first|done|omega))|omega)))))
 go_ret;exact⟨rfl,by(repeat (first|with_reducible (first|exact c|exact KBq|refine KHq ?_|refine below_drewN ?_ _|refine KOq ?_ ?_ _|refine KNq ?_ ?_ _)|(focus (simp;first|done|omega))|omega))⟩
def Q26 (a b f s:Int) (n:Nat):Bool:=Q0l a b f s n && (bits .and .i64 f 3==1)
theorem Q85 (f:Int) (a:0<=f) (b:f < 16):((bits .and .i64 f 1 !=0) && !(bits .and .i64 f 2 !=0))=(bits .and .i64 f 3==1):=by
 have h:f=0\/f=1\/f=2\/f=3\/f=4\/f=5\/f=6\/f=7\/f=8\/f=9\/f=10\/f=11\/f=12\/f=13\/f=14\/f=15:=by omega
 rcases h with h|h|h|h|h|h|h|h|h|h|h|h|h|h|h|h <;> subst h <;> decide+kernel
theorem Qfc {a b f s:Int} {n:Nat} (h:¬Q0l a b f s n=true):false=Q26 a b f s n:=by simp[Q26,h]
theorem Q5f {a b f s:Int} {n:Nat} (h:Q0l a b f s n=true):(bits .and .i64 f 3==1)=Q26 a b f s n:=by simp[Q26,h]
theorem QcD {a b f s:Int} {n:Nat} (h:Q0l a b f s n=true) (h1:¬(bits .and .i64 f 1 !=0)=true):false=Q26 a b f s n:=by
 have q:=Q0P.1 h;rw[<-Q5f h,<-Q85 f q.2.1 q.2.2.1];simp[Bool.eq_false_iff.2 h1]
theorem Qbk {a b f s:Int} {n:Nat} (h:Q0l a b f s n=true) (c:(bits .and .i64 f 1 !=0)=true):(!(bits .and .i64 f 2 !=0))=Q26 a b f s n:=by
 have q:=Q0P.1 h;rw[<-Q5f h,<-Q85 f q.2.1 q.2.2.1,c,Bool.true_and]
theorem Q4u (a b f s:Int) (o:Option Addr) (len cap:Nat) (w:World) (l:len<=maxLen):
  Calls Tryz.prog 174 #[pkt a b f s (.slice o len cap)] w fun e r=>e=.returned (.bool (Q26 a b f s len))/\Below w.heap.size w r:=by
 have c:Below w.heap.size w w:=KBq
 by_cases h:Q0l a b f s len=true
 ·by_cases h1:(bits .and .i64 f 1 !=0)=true
  ·have p:=Q00 (Qbk h h1)
   go_enter Tryz.func174,Tryz.ntmps174;go_wp2_with (first|(go_at_call 218;refine(Q1v a b f s o len cap _ l).mono ?_;rintro e g ⟨rfl,d⟩;obtain⟨m,n⟩:=Q0F d;have j:w.heap.size < g.heap.size:=(by have i:=d.size;(try simp at i);omega);have c:Below w.heap.size w g:=(by refine Below.trans ?_ (d.mono (by have hs:=c.size;(try simp) <;> omega));(repeat (first|with_reducible (first|exact c|exact KBq|refine KHq ?_|refine below_drewN ?_ _|refine KOq ?_ ?_ _|refine KNq ?_ ?_ _)|(focus (simp;first|done|omega))|omega))))|go_in);go_ret
   exact⟨Q03 p.out,by(repeat (first|with_reducible (first|exact c|exact KBq|refine KHq ?_|refine below_drewN ?_ _|refine KOq ?_ ?_ _|refine KNq ?_ ?_ _)|(focus (simp;first|done|omega))|omega))⟩
  ·have k:=Q00 (QcD h h1)
   have q:=Bool.eq_false_iff.2 h1;go_enter Tryz.func174,Tryz.ntmps174
   go_wp2_with (first|(go_at_call 218;refine(Q1v a b f s o len cap _ l).mono ?_;rintro e g ⟨rfl,d⟩;obtain⟨m,n⟩:=Q0F d;have j:w.heap.size < g.heap.size:=(by have i:=d.size;(try simp at i);omega);have c:Below w.heap.size w g:=(by refine Below.trans ?_ (d.mono (by have hs:=c.size;(try simp) <;> omega));(repeat (first|with_reducible (first|exact c|exact KBq|refine KHq ?_|refine below_drewN ?_ _|refine KOq ?_ ?_ _|refine KNq ?_ ?_ _)|(focus (simp;first|done|omega))|omega))))|go_in);go_ret
   exact⟨Q03 k.out,by(repeat (first|with_reducible (first|exact c|exact KBq|refine KHq ?_|refine below_drewN ?_ _|refine KOq ?_ ?_ _|refine KNq ?_ ?_ _)|(focus (simp;first|done|omega))|omega))⟩
 ·have k:=Q00 (Qfc h)
  go_enter Tryz.func174,Tryz.ntmps174;go_wp2_with (first|(go_at_call 218;refine(Q1v a b f s o len cap _ l).mono ?_;rintro e g ⟨rfl,d⟩;obtain⟨m,n⟩:=Q0F d;have j:w.heap.size < g.heap.size:=(by have i:=d.size;(try simp at i);omega);have c:Below w.heap.size w g:=(by refine Below.trans ?_ (d.mono (by have hs:=c.size;(try simp) <;> omega));(repeat (first|with_reducible (first|exact c|exact KBq|refine KHq ?_|refine below_drewN ?_ _|refine KOq ?_ ?_ _|refine KNq ?_ ?_ _)|(focus (simp;first|done|omega))|omega))))|go_in);go_ret
  exact⟨Q03 k.out,by(repeat (first|with_reducible (first|exact c|exact KBq|refine KHq ?_|refine below_drewN ?_ _|refine KOq ?_ ?_ _|refine KNq ?_ ?_ _)|(focus (simp;first|done|omega))|omega))⟩
def Q4x (a b f s:Int) (len:Nat):Bool:=decide (a=0) && decide (b=0) && decide (f=0) && decide (s=0) && decide (len=0)
theorem Q7r (a b f s:Int) (o:Option Addr) (len cap:Nat) (w:World):
  Calls Tryz.prog 253 #[pkt a b f s (.slice o len cap)] w fun e g=>e=.returned (.bool (Q4x a b f s len))/\Below w.heap.size w g:=by
 have d:Below w.heap.size w w:=KBq
 by_cases q0:a=0
 ·subst q0
  by_cases q1:b=0
  ·subst q1
   by_cases q2:f=0
   ·subst q2
    by_cases q3:s=0
    ·subst q3
     by_cases q4:len=0
     ·subst q4
      go_enter Tryz.func253,Tryz.ntmps253;go_wp2
      all_goals go_ret
      all_goals exact⟨Q03 (by simp[Q4x]),by(repeat (first|with_reducible (first|exact d|exact KBq|refine KHq ?_|refine below_drewN ?_ _|refine KOq ?_ ?_ _|refine KNq ?_ ?_ _)|(focus (simp;first|done|omega))|omega))⟩
     ·skip
      go_enter Tryz.func253,Tryz.ntmps253;go_wp2
      all_goals go_ret
      all_goals exact⟨Q03 (by have c:decide (len=0)=false:=decide_eq_false (by omega);unfold Q4x;rw[c];simp <;> omega),by(repeat (first|with_reducible (first|exact d|exact KBq|refine KHq ?_|refine below_drewN ?_ _|refine KOq ?_ ?_ _|refine KNq ?_ ?_ _)|(focus (simp;first|done|omega))|omega))⟩
    ·skip
     go_enter Tryz.func253,Tryz.ntmps253;go_wp2
     all_goals go_ret
     all_goals exact⟨Q03 (by have c:decide (s=0)=false:=decide_eq_false (by omega);unfold Q4x;rw[c];simp <;> omega),by(repeat (first|with_reducible (first|exact d|exact KBq|refine KHq ?_|refine below_drewN ?_ _|refine KOq ?_ ?_ _|refine KNq ?_ ?_ _)|(focus (simp;first|done|omega))|omega))⟩
   ·skip
    go_enter Tryz.func253,Tryz.ntmps253;go_wp2
    all_goals go_ret
    all_goals exact⟨Q03 (by have c:decide (f=0)=false:=decide_eq_false (by omega);unfold Q4x;rw[c];simp <;> omega),by(repeat (first|with_reducible (first|exact d|exact KBq|refine KHq ?_|refine below_drewN ?_ _|refine KOq ?_ ?_ _|refine KNq ?_ ?_ _)|(focus (simp;first|done|omega))|omega))⟩
  ·skip
   go_enter Tryz.func253,Tryz.ntmps253;go_wp2
   all_goals go_ret
   all_goals exact⟨Q03 (by have c:decide (b=0)=false:=decide_eq_false (by omega);unfold Q4x;rw[c];simp <;> omega),by(repeat (first|with_reducible (first|exact d|exact KBq|refine KHq ?_|refine below_drewN ?_ _|refine KOq ?_ ?_ _|refine KNq ?_ ?_ _)|(focus (simp;first|done|omega))|omega))⟩
 ·skip
  go_enter Tryz.func253,Tryz.ntmps253;go_wp2
  all_goals go_ret
  all_goals exact⟨Q03 (by have c:decide (a=0)=false:=decide_eq_false (by omega);unfold Q4x;rw[c];simp <;> omega),by(repeat (first|with_reducible (first|exact d|exact KBq|refine KHq ?_|refine below_drewN ?_ _|refine KOq ?_ ?_ _|refine KNq ?_ ?_ _)|(focus (simp;first|done|omega))|omega))⟩
end Go.Proofs.YteffhdcankkfkaaGreat
