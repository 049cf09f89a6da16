/- For every list of bytes the law FnExactPacketRead answers true, and the bytes read as they did: impl.PacketRead answers as the model's, writes nothing into what it is handed, and its answer owns its memory. No conditions. -/
import Derived.Test.YtgpooddnkhhojagLMarkP
import Derived.Test.YtgpooddnkhhojagSRead5
namespace Go.Proofs.Ytgpooddnkhhojag
open Go.ChangeShapes Go.WideShapes Go.ChangeAt Go.RowKit Go.Joins
set_option linter.unusedVariables false
set_option linter.unusedSimpArgs false

theorem boxed.grown {k : Nat} {a b f s : Int} {v : Value} {w w' : World} {row : Option Nat} (h : boxed k a b f s v w) (hg : w.grownBy w' row) (hk : k < w.heap.size) (hne : some k ≠ row) : boxed k a b f s v w' := by
  have e : ∀ o, w'.cell? ⟨k, o, none⟩ = w.cell? ⟨k, o, none⟩ := fun o => World.cell?_of_block (w := w) (hg.block k hk hne)
  exact ⟨(e 0).trans h.1, (e 1).trans h.2.1, (e 2).trans h.2.2.1, (e 3).trans h.2.2.2.1, (e 4).trans h.2.2.2.2⟩
theorem rdL_len (l : List Int) : (rdL l).length ≤ l.length := by unfold rdL; split <;> simp

set_option maxHeartbeats 8000000 in
theorem lawPacketRead (o : Option Addr) (cap : Nat) (l : List Int) (w : World) (hm : l.length ≤ maxLen) (hR : Rd w o l) (hB8 : isB l) :
    Calls Try.prog 5 #[.slice o l.length cap] w fun e w' => e = .returned (.bool true) ∧ Below w.heap.size w w' := by
  by_cases hlen : l.length ≤ 1048576
  · have hmm := hm
    have hsp := hide (fun w o cap h hc hm => specPacketRead_any o cap l w h hB8 hlen hc hm)
    have hip := hide (fun w o cap h hc hm => implPacketRead_any o cap l w h hB8 hlen hc hm)
    unfold readPost at hsp hip
    have hBl : (rdL l).length ≤ 1048576 := Nat.le_trans (rdL_len l) hlen
    generalize rdN l (pairL l 0) = pa at hsp hip
    generalize rdN l (pairL l 2) = pb at hsp hip
    generalize rdN l (l.getD 6 0) = pf at hsp hip
    generalize rdN l (pairL l 4) = ps at hsp hip
    generalize rdL l = B at *
    generalize okR l = ok at hsp hip
    unfold maxLen at hm
    have hB : Below w.heap.size w w := Below.refl _ _
    go_enter Try.func5, Try.ntmps5
    go_wp2_with fail
    go_at_call 8
    refine (toByteS_any o cap l _ hR hB8 hlen).mono ?_
    rintro e wa ⟨ga, rfl, howa, hba⟩
    replace hba : Below w.heap.size w wa := (by refine Below.trans ?_ (Below.mono hba (by (try simp) <;> omega)); (repeat (first | with_reducible exact Below.refl _ _ | with_reducible refine Below.drew ?_ | with_reducible refine Below.alloc ?_ ?_ _ | (focus (simp; done)) | (focus (simp; omega)) | omega)))
    have hBa : Below w.heap.size w wa := hB.trans (hba.mono hB.size)
    go_wp2_with fail
    go_at_call 19
    refine (hsp.out _ _ _ howa.rd (Nat.le_refl _) hmm).mono ?_
    rintro e wb ⟨vb, rfl, howb, hbb⟩
    replace hbb : Below wa.heap.size wa wb := (by refine Below.trans ?_ (Below.mono hbb (by (try simp) <;> omega)); (repeat (first | with_reducible exact Below.refl _ _ | with_reducible refine Below.drew ?_ | with_reducible refine Below.alloc ?_ ?_ _ | (focus (simp; done)) | (focus (simp; omega)) | omega)))
    have hBb : Below w.heap.size w wb := hBa.trans (hbb.mono hBa.size)
    obtain ⟨ob, cb, hvb, hRb⟩ := howb.open
    rw [hvb] at howb ⊢
    have BW := boxed_new wb pa pb pf ps (.slice ob B.length cb) 36
    go_wp2_with fail
    generalize hwcx : wb.alloc (.cells #[.int .i64 pa, .int .i64 pb, .int .i64 pf, .int .i64 ps, .slice ob B.length cb] 36) = wc at *
    have hbc : Below wb.heap.size wb wc := by rw [← hwcx]; exact (Below.refl _ _).alloc (Nat.le_refl _) _
    have hxc : wb.heap.size < wc.heap.size := by rw [← hwcx]; simp
    have hBc : Below w.heap.size w wc := hBb.trans (hbc.mono hBb.size)
    clear hwcx
    have hRbc : RdB wc.heap.size wc ob B := (hRb.kept hbc).toB
    clear howb hvb hRb howa
    go_wp2_with fail
    go_at_call 8
    refine (toByteS_any o cap l _ (hR.kept hBc) hB8 hlen).mono ?_
    rintro e wd ⟨gd, rfl, howd, hbd⟩
    replace hbd : Below wc.heap.size wc wd := (by refine Below.trans ?_ (Below.mono hbd (by (try simp) <;> omega)); (repeat (first | with_reducible exact Below.refl _ _ | with_reducible refine Below.drew ?_ | with_reducible refine Below.alloc ?_ ?_ _ | (focus (simp; done)) | (focus (simp; omega)) | omega)))
    have hBd : Below w.heap.size w wd := hBc.trans (hbd.mono hBc.size)
    replace BW := BW.kept hbd hxc
    go_wp2_with fail
    go_at_call 20
    refine (hip.out _ _ _ howd.rd (Nat.le_refl _) hmm).mono ?_
    rintro e we ⟨ve, rfl, howe, hbe⟩
    replace hbe : Below wd.heap.size wd we := (by refine Below.trans ?_ (Below.mono hbe (by (try simp) <;> omega)); (repeat (first | with_reducible exact Below.refl _ _ | with_reducible refine Below.drew ?_ | with_reducible refine Below.alloc ?_ ?_ _ | (focus (simp; done)) | (focus (simp; omega)) | omega)))
    have hBe : Below w.heap.size w we := hBd.trans (hbe.mono hBd.size)
    replace BW := BW.kept hbe (Nat.lt_of_lt_of_le hxc hbd.size)
    obtain ⟨oe, ce, hve, hRe⟩ := howe.open
    rw [hve] at howe ⊢
    have XO : ∀ O, boxed wb.heap.size pa pb pf ps (.slice ob B.length cb) (we.alloc O) := fun O => BW.kept ((Below.refl we.heap.size we).alloc (Nat.le_refl _) O) (Nat.lt_of_lt_of_le hxc (Nat.le_trans hbd.size hbe.size))
    have x0 := fun O => (XO O).1
    have x1 := fun O => (XO O).2.1
    have x2 := fun O => (XO O).2.2.1
    have x3 := fun O => (XO O).2.2.2.1
    have x4 := fun O => (XO O).2.2.2.2
    clear XO
    have BG := boxed_new we pa pb pf ps (.slice oe B.length ce) 36
    go_wp2_with fail
    generalize hwfx : we.alloc (.cells #[.int .i64 pa, .int .i64 pb, .int .i64 pf, .int .i64 ps, .slice oe B.length ce] 36) = wf at *
    have hbf : Below we.heap.size we wf := by rw [← hwfx]; exact (Below.refl _ _).alloc (Nat.le_refl _) _
    have hxf : we.heap.size < wf.heap.size := by rw [← hwfx]; simp
    have hBf : Below w.heap.size w wf := hBe.trans (hbf.mono hBe.size)
    clear hwfx
    clear x0 x1 x2 x3 x4
    have hCd : wc.heap.size ≤ wd.heap.size := hbd.size
    have hCe : wc.heap.size ≤ we.heap.size := Nat.le_trans hCd hbe.size
    have hCf : wc.heap.size ≤ wf.heap.size := Nat.le_trans hCe hbf.size
    have hxcf : wb.heap.size < wf.heap.size := Nat.lt_of_lt_of_le hxc hCf
    replace BW := BW.kept hbf (Nat.lt_of_lt_of_le hxc hCe)
    have hRbf := ((hRbc.kept hbd (Nat.le_refl _)).kept hbe hCd).kept hbf hCe
    have howdf : ownB wf wc.heap.size (.slice (some ⟨gd, 0, none⟩) l.length l.length) l := own_kept (own_kept howd hbe) hbf
    have howef : ownB wf wd.heap.size (.slice oe B.length ce) B := own_kept howe hbf
    have hgd : gd < wd.heap.size := (howd.lt gd rfl).2
    have hoe : ∀ k, (Value.slice oe B.length ce).ownBlock = some k → k < we.heap.size := fun k h => (howe.lt k h).2
    clear howd howe hve hRe hRbc
    have BW2 := BW
    obtain ⟨x0, x1, x2, x3, x4⟩ := BW2
    have BG2 := BG
    obtain ⟨y0, y1, y2, y3, y4⟩ := BG2
    go_wp2_with fail
    go_at_call 15
    refine (eqPacket_same pa pb pf ps _ _ _ _ B _ howef.rdo (hRbf.rd hCf) hBl).mono ?_
    rintro e wg ⟨rfl, hbg⟩
    replace hbg : Below wf.heap.size wf wg := (by refine Below.trans ?_ (Below.mono hbg (by (try simp) <;> omega)); (repeat (first | with_reducible exact Below.refl _ _ | with_reducible refine Below.drew ?_ | with_reducible refine Below.alloc ?_ ?_ _ | (focus (simp; done)) | (focus (simp; omega)) | omega)))
    have hBg : Below w.heap.size w wg := hBf.trans (hbg.mono hBf.size)
    replace BW := BW.kept hbg hxcf
    replace BG := BG.kept hbg hxf
    have hxg : we.heap.size < wg.heap.size := Nat.lt_of_lt_of_le hxf hbg.size
    go_wp2_with fail
    go_at_call 8
    refine (toByteS_any o cap l _ (hR.kept hBg) hB8 hlen).mono ?_
    rintro e wh ⟨gh, rfl, howh, hbh⟩
    replace hbh : Below wg.heap.size wg wh := (by refine Below.trans ?_ (Below.mono hbh (by (try simp) <;> omega)); (repeat (first | with_reducible exact Below.refl _ _ | with_reducible refine Below.drew ?_ | with_reducible refine Below.alloc ?_ ?_ _ | (focus (simp; done)) | (focus (simp; omega)) | omega)))
    have hBh : Below w.heap.size w wh := hBg.trans (hbh.mono hBg.size)
    have hfh : Below wf.heap.size wf wh := hbg.trans (hbh.mono hbg.size)
    go_wp2_with fail
    go_at_call 10
    refine (eqByteS_same _ _ _ _ l _ (ownB.rd (own_kept howdf hfh)) howh.rd hlen).mono ?_
    rintro e wi ⟨rfl, hbi⟩
    replace hbi : Below wh.heap.size wh wi := (by refine Below.trans ?_ (Below.mono hbi (by (try simp) <;> omega)); (repeat (first | with_reducible exact Below.refl _ _ | with_reducible refine Below.drew ?_ | with_reducible refine Below.alloc ?_ ?_ _ | (focus (simp; done)) | (focus (simp; omega)) | omega)))
    have hBi : Below w.heap.size w wi := hBh.trans (hbi.mono hBh.size)
    have hfi : Below wf.heap.size wf wi := hfh.trans (hbi.mono hfh.size)
    replace BW := (BW.kept hbh (Nat.lt_of_lt_of_le hxcf hbg.size)).kept hbi (Nat.lt_of_lt_of_le hxcf hfh.size)
    replace BG := (BG.kept hbh hxg).kept hbi (Nat.lt_of_lt_of_le hxf hfh.size)
    have howdi : ownB wi wc.heap.size (.slice (some ⟨gd, 0, none⟩) l.length l.length) l := own_kept howdf hfi
    have howei : ownB wi wd.heap.size (.slice oe B.length ce) B := own_kept howef hfi
    have hCi : wc.heap.size ≤ wi.heap.size := Nat.le_trans hCf hfi.size
    have hRbi := hRbf.kept hfi hCf
    clear howh howdf howef hRbf x0 x1 x2 x3 x4 y0 y1 y2 y3 y4
    go_wp2_with fail
    refine (markByteS_any wc.heap.size _ l 1 _ howdi (by omega) (by omega) hlen).mono ?_
    rintro e wj ⟨rfl, _, hgj⟩
    have hbj : Below wc.heap.size wi wj := (Below.refl _ _).grown hgj hCi (fun k h => (howdi.lt k h).1)
    have hBj : Below w.heap.size w wj := hBi.trans (hbj.mono (Nat.le_trans hBb.size (Nat.le_of_lt hxc)))
    have hEi : we.heap.size < wi.heap.size := Nat.lt_of_lt_of_le hxf hfi.size
    have hneG : some we.heap.size ≠ (Value.slice (some ⟨gd, 0, none⟩) l.length l.length).ownBlock := by have := hbe.size; simp [Value.ownBlock]; omega
    replace BG := BG.grown hgj hEi hneG
    replace BW := BW.kept hbj hxc
    have hRbj := hRbi.kept hbj (Nat.le_refl _)
    have hCj : wc.heap.size ≤ wj.heap.size := Nat.le_trans hCi hgj.size
    have howej : ownB wj wd.heap.size (.slice oe B.length ce) B := howei.kept hgj (by
      cases hob : (Value.slice oe B.length ce).ownBlock with
      | none => exact .inl rfl
      | some k => right; have := (howei.lt k hob).1; intro h; simp [Value.ownBlock] at h; omega)
    have hEj : we.heap.size < wj.heap.size := Nat.lt_of_lt_of_le hEi hgj.size
    clear howei howdi hgj hRbi
    have BW2 := BW
    obtain ⟨x0, x1, x2, x3, x4⟩ := BW2
    have BG2 := BG
    obtain ⟨y0, y1, y2, y3, y4⟩ := BG2
    have hln : (0 : Int) ≤ (l.length : Int) := by omega
    go_wp2_with fail
    go_at_call 15
    refine (eqPacket_same pa pb pf ps _ _ _ _ B _ howej.rdo (hRbj.rd hCj) hBl).mono ?_
    rintro e wk ⟨rfl, hbk⟩
    replace hbk : Below wj.heap.size wj wk := (by refine Below.trans ?_ (Below.mono hbk (by (try simp) <;> omega)); (repeat (first | with_reducible exact Below.refl _ _ | with_reducible refine Below.drew ?_ | with_reducible refine Below.alloc ?_ ?_ _ | (focus (simp; done)) | (focus (simp; omega)) | omega)))
    have hBk : Below w.heap.size w wk := hBj.trans (hbk.mono hBj.size)
    replace BW := BW.kept hbk (Nat.lt_of_lt_of_le hxc hCj)
    replace BG := BG.kept hbk hEj
    have howek : ownB wk wd.heap.size (.slice oe B.length ce) B := own_kept howej hbk
    have hCk : wc.heap.size ≤ wk.heap.size := Nat.le_trans hCj hbk.size
    have hEk : we.heap.size < wk.heap.size := Nat.lt_of_lt_of_le hEj hbk.size
    have hRbk := hRbj.kept hbk hCj
    have BW2 := BW
    obtain ⟨x0, x1, x2, x3, x4⟩ := BW2
    have BG2 := BG
    obtain ⟨y0, y1, y2, y3, y4⟩ := BG2
    clear howej hRbj
    go_wp2_with fail
    refine (markPacket_any wd.heap.size pa pb pf ps _ B 1 _ howek (by omega) (by omega) hBl).mono ?_
    rintro e wl ⟨rfl, howl, hgl⟩
    have hdk : wd.heap.size ≤ wk.heap.size := Nat.le_trans hbe.size (Nat.le_of_lt hEk)
    have hbl : Below wd.heap.size wk wl := (Below.refl _ _).grown hgl hdk (fun k h => (howek.lt k h).1)
    have hBl2 : Below w.heap.size w wl := hBk.trans (hbl.mono hBd.size)
    have hBl3 := hBl2
    replace BG := BG.grown hgl hEk (fun h => by have := hoe _ h.symm; omega)
    replace BW := BW.kept hbl (Nat.lt_of_lt_of_le hxc hCd)
    have hRbl := hRbk.kept hbl hCd
    have hCl : wc.heap.size ≤ wl.heap.size := Nat.le_trans hCk hgl.size
    have hEl : we.heap.size < wl.heap.size := Nat.lt_of_lt_of_le hEk hgl.size
    have howl' : ownB wl wd.heap.size (.slice oe B.length ce) (markL 1 B.length) := howl
    clear howek hgl howl hRbk
    have BW2 := BW
    obtain ⟨x0, x1, x2, x3, x4⟩ := BW2
    have BG2 := BG
    obtain ⟨y0, y1, y2, y3, y4⟩ := BG2
    have hnn : (0 : Int) ≤ (B.length : Int) ∧ (B.length : Int) ≤ 1048576 := by omega
    have hBL : Below w.heap.size w wl := hBl2
    go_wp2_with fail
    go_at_call 21
    refine (heldPacket_any pa pb pf ps oe ce B.length 1 _ howl'.rdo (by omega) (by omega) hBl).mono ?_
    rintro e wm ⟨rfl, hbm⟩
    replace hbm : Below wl.heap.size wl wm := (by refine Below.trans ?_ (Below.mono hbm (by (try simp) <;> omega)); (repeat (first | with_reducible exact Below.refl _ _ | with_reducible refine Below.drew ?_ | with_reducible refine Below.alloc ?_ ?_ _ | (focus (simp; done)) | (focus (simp; omega)) | omega)))
    have hBm : Below w.heap.size w wm := hBL.trans (hbm.mono hBL.size)
    replace BW := BW.kept hbm (Nat.lt_of_lt_of_le hxc hCl)
    replace BG := BG.kept hbm hEl
    have hCm : wc.heap.size ≤ wm.heap.size := Nat.le_trans hCl hbm.size
    have hEm : we.heap.size < wm.heap.size := Nat.lt_of_lt_of_le hEl hbm.size
    go_wp2_with fail
    go_at_call 8
    refine (toByteS_any o cap l _ (hR.kept hBm) hB8 hlen).mono ?_
    rintro e wn ⟨gn, rfl, hown, hbn⟩
    replace hbn : Below wm.heap.size wm wn := (by refine Below.trans ?_ (Below.mono hbn (by (try simp) <;> omega)); (repeat (first | with_reducible exact Below.refl _ _ | with_reducible refine Below.drew ?_ | with_reducible refine Below.alloc ?_ ?_ _ | (focus (simp; done)) | (focus (simp; omega)) | omega)))
    have hBn : Below w.heap.size w wn := hBm.trans (hbn.mono hBm.size)
    replace BW := BW.kept hbn (Nat.lt_of_lt_of_le hxc hCm)
    replace BG := BG.kept hbn hEm
    have hCn : wc.heap.size ≤ wn.heap.size := Nat.le_trans hCm hbn.size
    have hEn : we.heap.size < wn.heap.size := Nat.lt_of_lt_of_le hEm hbn.size
    go_wp2_with fail
    go_at_call 20
    refine (hip.out _ _ _ hown.rd (Nat.le_refl _) hmm).mono ?_
    rintro e wo ⟨vo, rfl, howo, hbo⟩
    replace hbo : Below wn.heap.size wn wo := (by refine Below.trans ?_ (Below.mono hbo (by (try simp) <;> omega)); (repeat (first | with_reducible exact Below.refl _ _ | with_reducible refine Below.drew ?_ | with_reducible refine Below.alloc ?_ ?_ _ | (focus (simp; done)) | (focus (simp; omega)) | omega)))
    have hBo : Below w.heap.size w wo := hBn.trans (hbo.mono hBn.size)
    replace BW := BW.kept hbo (Nat.lt_of_lt_of_le hxc hCn)
    replace BG := BG.kept hbo hEn
    have hCo : wc.heap.size ≤ wo.heap.size := Nat.le_trans hCn hbo.size
    have hEo : we.heap.size < wo.heap.size := Nat.lt_of_lt_of_le hEn hbo.size
    obtain ⟨oo, co, hvo, hRo⟩ := howo.open
    rw [hvo] at howo ⊢
    have XO : ∀ O, boxed wb.heap.size pa pb pf ps (.slice ob B.length cb) (wo.alloc O) := fun O => BW.kept ((Below.refl wo.heap.size wo).alloc (Nat.le_refl _) O) (Nat.lt_of_lt_of_le hxc hCo)
    have x0 := fun O => (XO O).1
    have x1 := fun O => (XO O).2.1
    have x2 := fun O => (XO O).2.2.1
    have x3 := fun O => (XO O).2.2.2.1
    have x4 := fun O => (XO O).2.2.2.2
    clear XO
    have BH := boxed_new wo pa pb pf ps (.slice oo B.length co) 36
    go_wp2_with fail
    generalize hwpx : wo.alloc (.cells #[.int .i64 pa, .int .i64 pb, .int .i64 pf, .int .i64 ps, .slice oo B.length co] 36) = wp at *
    have hbp : Below wo.heap.size wo wp := by rw [← hwpx]; exact (Below.refl _ _).alloc (Nat.le_refl _) _
    have hxp : wo.heap.size < wp.heap.size := by rw [← hwpx]; simp
    have hBp : Below w.heap.size w wp := hBo.trans (hbp.mono hBo.size)
    clear hwpx
    clear x0 x1 x2 x3 x4
    replace BW := BW.kept hbp (Nat.lt_of_lt_of_le hxc hCo)
    replace BG := BG.kept hbp hEo
    have hCp : wc.heap.size ≤ wp.heap.size := Nat.le_trans hCo hbp.size
    have hEp : we.heap.size < wp.heap.size := Nat.lt_of_lt_of_le hEo hbp.size
    have hRbp := (((hRbl.kept hbm hCl).kept hbn hCm).kept hbo hCn).kept hbp hCo
    have BW2 := BW
    obtain ⟨x0, x1, x2, x3, x4⟩ := BW2
    have BG2 := BG
    obtain ⟨y0, y1, y2, y3, y4⟩ := BG2
    have BH2 := BH
    obtain ⟨z0, z1, z2, z3, z4⟩ := BH2
    go_wp2_with fail
    go_at_call 15
    refine (eqPacket_same pa pb pf ps _ _ _ _ B _ (hRo.kept hbp) (hRbp.rd hCp) hBl).mono ?_
    rintro e wq ⟨rfl, hbq⟩
    replace hbq : Below wp.heap.size wp wq := (by refine Below.trans ?_ (Below.mono hbq (by (try simp) <;> omega)); (repeat (first | with_reducible exact Below.refl _ _ | with_reducible refine Below.drew ?_ | with_reducible refine Below.alloc ?_ ?_ _ | (focus (simp; done)) | (focus (simp; omega)) | omega)))
    have hBq : Below w.heap.size w wq := hBp.trans (hbq.mono hBp.size)
    replace BG := BG.kept hbq hEp
    have BG2 := BG
    obtain ⟨y0, y1, y2, y3, y4⟩ := BG2
    have hlq : Below wl.heap.size wl wq := hbm.trans ((hbn.mono hbm.size).trans ((hbo.mono (Nat.le_trans hbm.size hbn.size)).trans ((hbp.mono (Nat.le_trans hbm.size (Nat.le_trans hbn.size hbo.size))).trans (hbq.mono (Nat.le_trans hbm.size (Nat.le_trans hbn.size (Nat.le_trans hbo.size hbp.size)))))))
    go_wp2_with fail
    go_at_call 21
    refine (heldPacket_any pa pb pf ps oe ce B.length 1 _ (howl'.rdo.kept hlq) (by omega) (by omega) hBl).mono ?_
    rintro e wr ⟨rfl, hbr⟩
    replace hbr : Below wq.heap.size wq wr := (by refine Below.trans ?_ (Below.mono hbr (by (try simp) <;> omega)); (repeat (first | with_reducible exact Below.refl _ _ | with_reducible refine Below.drew ?_ | with_reducible refine Below.alloc ?_ ?_ _ | (focus (simp; done)) | (focus (simp; omega)) | omega)))
    have hBr : Below w.heap.size w wr := hBq.trans (hbr.mono hBq.size)
    go_wp2
    go_ret
    exact ⟨rfl, hBr⟩
  · have hB : Below w.heap.size w w := Below.refl _ _
    unfold maxLen at hm
    go_enter Try.func5, Try.ntmps5
    go_wp2
    go_ret
    exact ⟨rfl, by (repeat (first | with_reducible exact hB | with_reducible exact Below.refl _ _ | with_reducible refine Below.drew ?_ | with_reducible refine below_drewN ?_ _ | with_reducible refine Below.alloc ?_ ?_ _ | with_reducible refine Below.setCell ?_ ?_ _ | (focus (simp; done)) | (focus (simp; omega)) | omega))⟩

set_option maxRecDepth 100000 in
theorem fnExactPacketRead_lifted (os : Os) (started : os.Started) (H : Type) (enc : TypeId × Value → H) :
    ReturnsInHanded {} Try.checked os 5 .any (Rows.fnExactPacketReadSpec.pre6 enc Try.prog Try.f5 Rows.fnExactPacketReadRow.domain false) (Rows.fnExactPacketReadSpec.post enc Try.prog Try.f5 false true false false) := by
  refine returnsInHanded_of_change (C := Try.checked) own started (by kernel_rfl) Try.func5
    (ChangeSpec.witness6 (enc := enc) (C := Try.checked) false ⟨#[], #[.slice none 0 0], []⟩ 8 (by kernel_rfl) (by kernel_rfl) (by kernel_rfl) (by kernel_rfl)) ?_
  intro W base args ds gs before hval0 hW hcnd _
  have hval : ∀ (j : Nat) t v, Try.f5.params[j]? = some t → args[j]? = some v → Value.okWide Try.prog W .any base t v := hval0
  have hW' := hW
  obtain ⟨p, q, hA0, hV, rfl, hfz, hnd⟩ := hW
  have hA : DataW.TrodAll enc Try.prog W 0 (fun _ => true) true Try.f5.params.toList args.toList ds p := hA0
  rw [Try.params5] at hA hval
  obtain ⟨v0, vs0, d0, ds0, p0, q0, hargs, rfl, rfl, h0, r0⟩ := trodAll_cons hA
  obtain ⟨rfl, rfl, rfl⟩ := trodAll_nil r0
  obtain rfl : args = #[v0] := by cases args; simp_all
  obtain ⟨rfl, rfl⟩ := trodVars_none hV
  have k0 := h0
  have lt0 : ∀ x ∈ p0, x.block < W.heap.size := by obtain ⟨m, hm⟩ := k0; exact DataW.trod_lt m _ _ _ hm
  obtain ⟨o0, cap0, l0, rfl, hm0, hR0, hB80⟩ := open_bytes (hval 0 22 v0 rfl rfl) h0
  clear hA0 hval0
  refine (lawPacketRead o0 cap0 l0 W hm0 hR0 hB80 ).mono fun e W' ⟨he, bel⟩ => ?_
  subst he
  exact ⟨_, rfl, _, _, _, [], _, [], hW', trodAll_mk1 (shut_bool Try.underlying4 _), (trodAll_cons_mk (Below.trod laidOut (by kernel_rfl) (of_decide_eq_true (by kernel_rfl)) k0 bel lt0) trodAll_mk0), rfl, bel.frame _, fun h => by cases h⟩

theorem fnExactPacketRead_over : Rows.fnExactPacketReadRow.holds Try.pinned (OpenSpec.ofChange Rows.fnExactPacketReadSpec) :=
  OpenClaim.holds_of_wide 5 Try.f5 rfl rfl rfl rfl rfl rfl rfl ⟨rfl, rfl, rfl, rfl, rfl⟩ rfl rfl rfl rfl rfl (by kernel_rfl) Try.func5 (by kernel_rfl)
    (of_decide_eq_true (by kernel_rfl)) (by unfold Func.isWrapper; first | (rw [if_pos (by decide +kernel)]; kernel_rfl) | (rw [if_neg (by decide +kernel)]; exact ⟨rfl, rfl⟩))
    (fun os started H enc _ => fnExactPacketRead_lifted os started H enc)

theorem fnExactPacketRead_holds : Rows.FnExactPacketReadSaid := fnExactPacketRead_over

end Go.Proofs.Ytgpooddnkhhojag
