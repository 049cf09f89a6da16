/- For every packet the law FnExactPacketBytes answers true, and the packet reads as it did: impl.PacketBytes answers as the model's, writes nothing into what it is handed, and its answer owns its memory. No conditions. -/
import Derived.Test.YtgpooddnkhhojagLMarkP
import Derived.Test.YtgpooddnkhhojagSPBytes
import Derived.Deep.RegionHeld3
namespace Go.Proofs.Ytgpooddnkhhojag
open Go.ChangeShapes Go.WideShapes Go.ChangeAt Go.RowKit Go.Joins
set_option linter.unusedVariables false
set_option linter.unusedSimpArgs false

theorem bytesL_len (a b f s : Int) (l : List Int) : (bytesL a b f s l).length ≤ 1048576 := by
  unfold bytesL
  split
  · have := (packetOk_bd ‹_›).1
    simp [packetL, preL_length]; omega
  · simp

set_option maxHeartbeats 4000000 in
theorem lawPacketBytes (a b f s : Int) (o : Option Addr) (cap : Nat) (l : List Int) (w : World) (hm : l.length ≤ maxLen) (hR : Rd w o l) (hB8 : isB l) :
    Calls Try.prog 4 #[pkt a b f s (.slice o l.length cap)] w fun e w' => e = .returned (.bool true) ∧ Below w.heap.size w w' := by
  have hB : Below w.heap.size w w := Below.refl _ _
  by_cases hlen : l.length ≤ 1048576
  · have hsz := fun w => szPacket_any a b f s o l.length cap 1048576 w hm (by omega) (by omega)
    rw [if_neg (by omega)] at hsz
    have BA := boxed_new w a b f s (.slice o l.length cap) 30
    go_enter Try.func4, Try.ntmps4
    go_wp2_with fail
    generalize hw0 : w.alloc (.cells #[.int .i64 a, .int .i64 b, .int .i64 f, .int .i64 s, .slice o l.length cap] 30) = w0 at *
    have hk0 : w.heap.size < w0.heap.size := by rw [← hw0]; simp
    have hB0 : Below w.heap.size w w0 := by rw [← hw0]; exact (Below.refl _ _).alloc (Nat.le_refl _) _
    have hs0 : w.heap.size ≤ w0.heap.size := hB0.size
    clear hw0
    go_wp2_with fail
    go_at_call 11
    refine (hsz _).mono ?_
    rintro e wa ⟨rfl, hba⟩
    replace hba : Below w0.heap.size w0 wa := (by refine Below.trans ?_ (Below.mono hba (by (try simp) <;> omega)); (repeat (first | with_reducible exact Below.refl _ _ | with_reducible refine Below.drew ?_ | with_reducible refine below_drewN ?_ _ | with_reducible refine Below.alloc ?_ ?_ _ | (focus (simp; done)) | (focus (simp; omega)) | omega)))
    have hBa : Below w.heap.size w wa := hB0.trans (hba.mono hs0)
    have hsa : w.heap.size ≤ wa.heap.size := hBa.size
    have hka : w.heap.size < wa.heap.size := Nat.lt_of_lt_of_le hk0 hba.size
    replace BA := BA.kept hba hk0
    have BA2 := BA
    obtain ⟨x0, x1, x2, x3, x4⟩ := BA2
    go_wp2_with fail
    go_at_call 13
    refine (toPacket_any a b f s o cap l _ (hR.kept hBa) hB8 hlen).mono ?_
    rintro e wb ⟨gb, rfl, howb, hbb⟩
    replace hbb : Below wa.heap.size wa wb := (by refine Below.trans ?_ (Below.mono hbb (by (try simp) <;> omega)); (repeat (first | with_reducible exact Below.refl _ _ | with_reducible refine Below.drew ?_ | with_reducible refine below_drewN ?_ _ | with_reducible refine Below.alloc ?_ ?_ _ | (focus (simp; done)) | (focus (simp; omega)) | omega)))
    have hBb : Below w.heap.size w wb := hBa.trans (hbb.mono hsa)
    have hsb : w.heap.size ≤ wb.heap.size := hBb.size
    have hkb : w.heap.size < wb.heap.size := Nat.lt_of_lt_of_le hka hbb.size
    replace BA := BA.kept hbb hka
    have BA2 := BA
    obtain ⟨x0, x1, x2, x3, x4⟩ := BA2
    go_wp2_with fail
    go_at_call 12
    refine (specPacketBytes_any a b f s _ _ l _ howb.rd (by simp) hB8 hm).mono ?_
    rintro e wc ⟨vw, rfl, howw, hbc⟩
    replace hbc : Below wb.heap.size wb wc := (by refine Below.trans ?_ (Below.mono hbc (by (try simp) <;> omega)); (repeat (first | with_reducible exact Below.refl _ _ | with_reducible refine Below.drew ?_ | with_reducible refine below_drewN ?_ _ | with_reducible refine Below.alloc ?_ ?_ _ | (focus (simp; done)) | (focus (simp; omega)) | omega)))
    have hBc : Below w.heap.size w wc := hBb.trans (hbc.mono hsb)
    have hsc : w.heap.size ≤ wc.heap.size := hBc.size
    have hkc : w.heap.size < wc.heap.size := Nat.lt_of_lt_of_le hkb hbc.size
    replace BA := BA.kept hbc hkb
    have BA2 := BA
    obtain ⟨x0, x1, x2, x3, x4⟩ := BA2
    obtain ⟨ow, cw, hvw, hRw⟩ := howw.open
    rw [hvw] at howw ⊢
    replace hRw := hRw.toB
    go_wp2_with fail
    go_at_call 13
    refine (toPacket_any a b f s o cap l _ (hR.kept hBc) hB8 hlen).mono ?_
    rintro e wd ⟨gd, rfl, howd, hbd⟩
    replace hbd : Below wc.heap.size wc wd := (by refine Below.trans ?_ (Below.mono hbd (by (try simp) <;> omega)); (repeat (first | with_reducible exact Below.refl _ _ | with_reducible refine Below.drew ?_ | with_reducible refine below_drewN ?_ _ | with_reducible refine Below.alloc ?_ ?_ _ | (focus (simp; done)) | (focus (simp; omega)) | omega)))
    have hBd : Below w.heap.size w wd := hBc.trans (hbd.mono hsc)
    have hsd : w.heap.size ≤ wd.heap.size := hBd.size
    have hkd : w.heap.size < wd.heap.size := Nat.lt_of_lt_of_le hkc hbd.size
    replace BA := BA.kept hbd hkc
    have BA2 := BA
    obtain ⟨x0, x1, x2, x3, x4⟩ := BA2
    have BX := boxed_new wd a b f s (.slice (some ⟨gd, 0, none⟩) l.length l.length) 36
    go_wp2_with fail
    generalize hwe : wd.alloc (.cells #[.int .i64 a, .int .i64 b, .int .i64 f, .int .i64 s, .slice (some ⟨gd, 0, none⟩) l.length l.length] 36) = we at *
    have hbe : Below wd.heap.size wd we := by rw [← hwe]; exact (Below.refl _ _).alloc (Nat.le_refl _) _
    have hxe : wd.heap.size < we.heap.size := by rw [← hwe]; simp
    have howx : ownB we wc.heap.size (.slice (some ⟨gd, 0, none⟩) l.length l.length) l := own_kept howd hbe
    clear hwe
    have hBe : Below w.heap.size w we := hBd.trans (hbe.mono hsd)
    have hse : w.heap.size ≤ we.heap.size := hBe.size
    have hke : w.heap.size < we.heap.size := Nat.lt_of_lt_of_le hkd hbe.size
    replace BA := BA.kept hbe hkd
    have hCd : wc.heap.size ≤ wd.heap.size := hbd.size
    have hCe : wc.heap.size ≤ we.heap.size := Nat.le_trans hCd hbe.size
    have hRwe : RdB wc.heap.size we ow (bytesL a b f s l) := (hRw.kept hbd (Nat.le_refl _)).kept hbe hCd
    clear howw hvw hRw howb
    go_wp2_with fail
    go_at_call 14
    refine (implPacketBytes_any a b f s _ _ l _ howx.rd (by simp) hB8 hm).mono ?_
    rintro e wf ⟨vg, rfl, howg, hbf⟩
    replace hbf : Below we.heap.size we wf := (by refine Below.trans ?_ (Below.mono hbf (by (try simp) <;> omega)); (repeat (first | with_reducible exact Below.refl _ _ | with_reducible refine Below.drew ?_ | with_reducible refine below_drewN ?_ _ | with_reducible refine Below.alloc ?_ ?_ _ | (focus (simp; done)) | (focus (simp; omega)) | omega)))
    have hBf : Below w.heap.size w wf := hBe.trans (hbf.mono hse)
    have hsf : w.heap.size ≤ wf.heap.size := hBf.size
    have hkf : w.heap.size < wf.heap.size := Nat.lt_of_lt_of_le hke hbf.size
    replace BA := BA.kept hbf hke
    have BA2 := BA
    obtain ⟨x0, x1, x2, x3, x4⟩ := BA2
    replace BX := BX.kept hbf hxe
    obtain ⟨og, cg, hvg, hRg⟩ := howg.open
    rw [hvg] at howg ⊢
    have hbl : (bytesL a b f s l).length ≤ 1048576 := bytesL_len a b f s l
    have hCf : wc.heap.size ≤ wf.heap.size := Nat.le_trans hCe hbf.size
    have hRwf := hRwe.kept hbf hCe
    go_wp2_with fail
    go_at_call 10
    refine (eqByteS_same _ _ _ _ (bytesL a b f s l) _ hRg (hRwf.rd hCf) hbl).mono ?_
    rintro e wg ⟨rfl, hbg⟩
    replace hbg : Below wf.heap.size wf wg := (by refine Below.trans ?_ (Below.mono hbg (by (try simp) <;> omega)); (repeat (first | with_reducible exact Below.refl _ _ | with_reducible refine Below.drew ?_ | with_reducible refine below_drewN ?_ _ | with_reducible refine Below.alloc ?_ ?_ _ | (focus (simp; done)) | (focus (simp; omega)) | omega)))
    have hBg : Below w.heap.size w wg := hBf.trans (hbg.mono hsf)
    have hsg : w.heap.size ≤ wg.heap.size := hBg.size
    have hkg : w.heap.size < wg.heap.size := Nat.lt_of_lt_of_le hkf hbg.size
    replace BA := BA.kept hbg hkf
    have BA2 := BA
    obtain ⟨x0, x1, x2, x3, x4⟩ := BA2
    have hxf : wd.heap.size < wf.heap.size := Nat.lt_of_lt_of_le hxe hbf.size
    replace BX := BX.kept hbg hxf
    have BX2 := BX
    obtain ⟨y0, y1, y2, y3, y4⟩ := BX2
    go_wp2
    have hxg : wd.heap.size < wg.heap.size := Nat.lt_of_lt_of_le hxf hbg.size
    have hEg : Below we.heap.size we wg := hbf.trans (hbg.mono hbf.size)
    have howxg : ownB wg wc.heap.size (.slice (some ⟨gd, 0, none⟩) l.length l.length) l := own_kept howx hEg
    have hgdlt : gd < we.heap.size := (howx.lt gd rfl).2
    go_region_held3 (fun w' => w'.cell? ⟨w.heap.size, 0, none⟩ = some (.int .i64 a) ∧ w'.cell? ⟨w.heap.size, 1, none⟩ = some (.int .i64 b) ∧ w'.cell? ⟨w.heap.size, 2, none⟩ = some (.int .i64 f) ∧ w'.cell? ⟨w.heap.size, 3, none⟩ = some (.int .i64 s) ∧ w'.cell? ⟨w.heap.size, 4, none⟩ = some (.slice o l.length cap) ∧ w'.cell? ⟨wd.heap.size, 0, none⟩ = some (.int .i64 a) ∧ w'.cell? ⟨wd.heap.size, 1, none⟩ = some (.int .i64 b) ∧ w'.cell? ⟨wd.heap.size, 2, none⟩ = some (.int .i64 f) ∧ w'.cell? ⟨wd.heap.size, 3, none⟩ = some (.int .i64 s) ∧ w'.cell? ⟨wd.heap.size, 4, none⟩ = some (.slice (some ⟨gd, 0, none⟩) l.length l.length)) (first | exact ⟨x0, x1, x2, x3, x4, y0, y1, y2, y3, y4⟩) (first | (go_at_call 13; refine (toPacket_any a b f s o cap l _ (hR.kept (by exact Below.drew hBg)) hB8 hlen).mono ?_; rintro e wh ⟨gh, rfl, howh, hbh⟩; replace hbh : Below wg.heap.size wg wh := (Below.drew (Below.refl _ _)).trans hbh; have BA3 := BA.kept hbh hkg; obtain ⟨x0, x1, x2, x3, x4⟩ := BA3; have BX3 := BX.kept hbh hxg; obtain ⟨y0, y1, y2, y3, y4⟩ := BX3) | (go_at_call 15; refine (eqPacket_same a b f s _ _ _ _ l _ (ownB.rd (own_kept howxg hbh)) howh.rd hlen).mono ?_; rintro e wi ⟨rfl, hbi⟩; replace hbi : Below wg.heap.size wg wi := hbh.trans (hbi.mono hbh.size); have BA3 := BA.kept hbi hkg; obtain ⟨x0, x1, x2, x3, x4⟩ := BA3; have BX3 := BX.kept hbi hxg; obtain ⟨y0, y1, y2, y3, y4⟩ := BX3))
    have hBi : Below w.heap.size w wi := hBg.trans (hbi.mono hsg)
    have hsi : w.heap.size ≤ wi.heap.size := hBi.size
    have hki : w.heap.size < wi.heap.size := Nat.lt_of_lt_of_le hkg hbi.size
    replace BA := BA.kept hbi hkg
    have hCg : wc.heap.size ≤ wg.heap.size := Nat.le_trans hCf hbg.size
    have hCi : wc.heap.size ≤ wi.heap.size := Nat.le_trans hCg hbi.size
    have hRwi := (hRwf.kept hbg hCf).kept hbi hCg
    have howxi : ownB wi wc.heap.size (.slice (some ⟨gd, 0, none⟩) l.length l.length) l := own_kept howxg hbi
    have howgi : ownB wi we.heap.size (.slice og (bytesL a b f s l).length cg) (bytesL a b f s l) := own_kept howg (hbg.trans (hbi.mono hbg.size))
    clear hbh howh howxg
    go_wp2_with fail
    refine (markPacket_any wc.heap.size a b f s _ l 1 _ howxi (by omega) (by omega) hlen).mono ?_
    rintro e wj ⟨rfl, howxj, hgj⟩
    have hbj : Below wc.heap.size wi wj := (Below.refl _ _).grown hgj hCi (fun k h => (howxi.lt k h).1)
    have hBj : Below w.heap.size w wj := hBi.trans (hbj.mono (Nat.le_of_lt hkc))
    have hsj : w.heap.size ≤ wj.heap.size := hBj.size
    have hkj : w.heap.size < wj.heap.size := Nat.lt_of_lt_of_le hki hgj.size
    have hCj : wc.heap.size ≤ wj.heap.size := Nat.le_trans hCi hgj.size
    replace BA := BA.kept hbj hkc
    have hRwj := hRwi.kept hbj (Nat.le_refl _)
    have howgj : ownB wj we.heap.size (.slice og (bytesL a b f s l).length cg) (bytesL a b f s l) := howgi.kept hgj (by
      cases hob : (Value.slice og (bytesL a b f s l).length cg).ownBlock with
      | none => exact .inl rfl
      | some k => right; have := (howgi.lt k hob).1; intro h; simp [Value.ownBlock] at h; omega)
    have BA2 := BA
    obtain ⟨x0, x1, x2, x3, x4⟩ := BA2
    have hgjs := hgj.size
    clear howgi howxj howxi hgj hRwi BX y0 y1 y2 y3 y4
    have hln : (0 : Int) ≤ (l.length : Int) := by omega
    go_wp2_with fail
    go_at_call 10
    refine (eqByteS_same _ _ _ _ (bytesL a b f s l) _ howgj.rdo (hRwj.rd hCj) hbl).mono ?_
    rintro e wk ⟨rfl, hbk⟩
    replace hbk : Below wj.heap.size wj wk := (by refine Below.trans ?_ (Below.mono hbk (by (try simp) <;> omega)); (repeat (first | with_reducible exact Below.refl _ _ | with_reducible refine Below.drew ?_ | with_reducible refine below_drewN ?_ _ | with_reducible refine Below.alloc ?_ ?_ _ | (focus (simp; done)) | (focus (simp; omega)) | omega)))
    have hBk : Below w.heap.size w wk := hBj.trans (hbk.mono hsj)
    have hsk : w.heap.size ≤ wk.heap.size := hBk.size
    have hkk : w.heap.size < wk.heap.size := Nat.lt_of_lt_of_le hkj hbk.size
    replace BA := BA.kept hbk hkj
    have BA2 := BA
    obtain ⟨x0, x1, x2, x3, x4⟩ := BA2
    have hCk : wc.heap.size ≤ wk.heap.size := Nat.le_trans hCj hbk.size
    have hRwk := hRwj.kept hbk hCj
    have howgk : ownB wk we.heap.size (.slice og (bytesL a b f s l).length cg) (bytesL a b f s l) := own_kept howgj hbk
    have hEk : we.heap.size ≤ wk.heap.size := by
      have h1 := hbf.size; have h2 := hbg.size; have h3 := hbi.size; have h4 := hbk.size; have h5 := hgjs; omega
    go_wp2_with fail
    refine (markByteS_any we.heap.size _ (bytesL a b f s l) 1 _ howgk (by omega) (by omega) hbl).mono ?_
    rintro e wl ⟨rfl, howl, hgl⟩
    have hbl2 : Below we.heap.size wk wl := (Below.refl _ _).grown hgl hEk (fun k h => (howgk.lt k h).1)
    have hBl : Below w.heap.size w wl := hBk.trans (hbl2.mono hse)
    have hsl : w.heap.size ≤ wl.heap.size := hBl.size
    have hkl : w.heap.size < wl.heap.size := Nat.lt_of_lt_of_le hkk hgl.size
    have hCl : wc.heap.size ≤ wl.heap.size := Nat.le_trans hCk hgl.size
    replace BA := BA.kept hbl2 hke
    have hRwl := hRwk.kept hbl2 hCe
    have BA2 := BA
    obtain ⟨x0, x1, x2, x3, x4⟩ := BA2
    have howl' : ownB wl we.heap.size (.slice og (bytesL a b f s l).length cg) (markL 1 (bytesL a b f s l).length) := howl
    clear howgk hgl howl hRwk
    have hnn : (0 : Int) ≤ ((bytesL a b f s l).length : Int) ∧ ((bytesL a b f s l).length : Int) ≤ 1048576 := by omega
    go_wp2_with fail
    refine (heldByteS_any og cg (bytesL a b f s l).length 1 _ howl'.rdo (by omega) (by omega) hbl).mono ?_
    rintro e _ ⟨rfl, rfl⟩
    go_wp2_with fail
    go_at_call 13
    refine (toPacket_any a b f s o cap l _ (hR.kept hBl) hB8 hlen).mono ?_
    rintro e wm ⟨gm, rfl, howm, hbm⟩
    replace hbm : Below wl.heap.size wl wm := (by refine Below.trans ?_ (Below.mono hbm (by (try simp) <;> omega)); (repeat (first | with_reducible exact Below.refl _ _ | with_reducible refine Below.drew ?_ | with_reducible refine below_drewN ?_ _ | with_reducible refine Below.alloc ?_ ?_ _ | (focus (simp; done)) | (focus (simp; omega)) | omega)))
    have hBm : Below w.heap.size w wm := hBl.trans (hbm.mono hsl)
    have hsm : w.heap.size ≤ wm.heap.size := hBm.size
    have hkm : w.heap.size < wm.heap.size := Nat.lt_of_lt_of_le hkl hbm.size
    replace BA := BA.kept hbm hkl
    have BA2 := BA
    obtain ⟨x0, x1, x2, x3, x4⟩ := BA2
    go_wp2_with fail
    go_at_call 14
    refine (implPacketBytes_any a b f s _ _ l _ howm.rd (by simp) hB8 hm).mono ?_
    rintro e wn ⟨vn, rfl, hown, hbn⟩
    replace hbn : Below wm.heap.size wm wn := (by refine Below.trans ?_ (Below.mono hbn (by (try simp) <;> omega)); (repeat (first | with_reducible exact Below.refl _ _ | with_reducible refine Below.drew ?_ | with_reducible refine below_drewN ?_ _ | with_reducible refine Below.alloc ?_ ?_ _ | (focus (simp; done)) | (focus (simp; omega)) | omega)))
    have hBn : Below w.heap.size w wn := hBm.trans (hbn.mono hsm)
    have hsn : w.heap.size ≤ wn.heap.size := hBn.size
    have hkn : w.heap.size < wn.heap.size := Nat.lt_of_lt_of_le hkm hbn.size
    replace BA := BA.kept hbn hkm
    have BA2 := BA
    obtain ⟨x0, x1, x2, x3, x4⟩ := BA2
    obtain ⟨on, cn, hvn, hRn⟩ := hown.open
    rw [hvn] at hown ⊢
    have hCm : wc.heap.size ≤ wm.heap.size := Nat.le_trans hCl hbm.size
    have hCn : wc.heap.size ≤ wn.heap.size := Nat.le_trans hCm hbn.size
    have hRwn := (hRwl.kept hbm hCl).kept hbn hCm
    go_wp2_with fail
    go_at_call 10
    refine (eqByteS_same _ _ _ _ (bytesL a b f s l) _ hRn (hRwn.rd hCn) hbl).mono ?_
    rintro e wo ⟨rfl, hbo⟩
    replace hbo : Below wn.heap.size wn wo := (by refine Below.trans ?_ (Below.mono hbo (by (try simp) <;> omega)); (repeat (first | with_reducible exact Below.refl _ _ | with_reducible refine Below.drew ?_ | with_reducible refine below_drewN ?_ _ | with_reducible refine Below.alloc ?_ ?_ _ | (focus (simp; done)) | (focus (simp; omega)) | omega)))
    have hBo : Below w.heap.size w wo := hBn.trans (hbo.mono hsn)
    have hso : w.heap.size ≤ wo.heap.size := hBo.size
    have hko : w.heap.size < wo.heap.size := Nat.lt_of_lt_of_le hkn hbo.size
    replace BA := BA.kept hbo hkn
    have BA2 := BA
    obtain ⟨x0, x1, x2, x3, x4⟩ := BA2
    have hfin : Rd wo og (markL 1 (bytesL a b f s l).length) := howl'.rdo.kept (hbm.trans ((hbn.mono hbm.size).trans (hbo.mono (Nat.le_trans hbm.size hbn.size))))
    go_wp2_with fail
    refine (heldByteS_any og cg (bytesL a b f s l).length 1 _ hfin (by omega) (by omega) hbl).mono ?_
    rintro e _ ⟨rfl, rfl⟩
    go_wp2
    go_ret
    exact ⟨rfl, hBo⟩
  · have hsz := fun w => szPacket_any a b f s o l.length cap 1048576 w hm (by omega) (by omega)
    rw [if_pos (by omega)] at hsz
    go_enter Try.func4, Try.ntmps4
    go_wp2_with fail; go_at_call 11; refine (hsz _).mono ?_; rintro e w1a ⟨rfl, hba⟩; obtain ⟨hca, hfa⟩ := bcell hba; have hz0a : w.heap.size < w1a.heap.size := (by have hz := hba.size; (try simp at hz); omega); have hB : Below w.heap.size w w1a := (by refine Below.trans ?_ (hba.mono (by have hs := hB.size; (try simp) <;> omega)); (repeat (first | with_reducible exact hB | with_reducible exact Below.refl _ _ | with_reducible refine Below.drew ?_ | with_reducible refine below_drewN ?_ _ | with_reducible refine Below.alloc ?_ ?_ _ | with_reducible refine Below.setCell ?_ ?_ _ | (focus (simp; done)) | (focus (simp; omega)) | omega)))
    go_wp2
    go_ret
    exact ⟨rfl, by (repeat (first | with_reducible exact hB | with_reducible exact Below.refl _ _ | with_reducible refine Below.drew ?_ | with_reducible refine below_drewN ?_ _ | with_reducible refine Below.alloc ?_ ?_ _ | with_reducible refine Below.setCell ?_ ?_ _ | (focus (simp; done)) | (focus (simp; omega)) | omega))⟩

set_option maxRecDepth 100000 in
theorem fnExactPacketBytes_lifted (os : Os) (started : os.Started) (H : Type) (enc : TypeId × Value → H) :
    ReturnsInHanded {} Try.checked os 4 .any (Rows.fnExactPacketBytesSpec.pre6 enc Try.prog Try.f4 Rows.fnExactPacketBytesRow.domain false) (Rows.fnExactPacketBytesSpec.post enc Try.prog Try.f4 false true false false) := by
  refine returnsInHanded_of_change (C := Try.checked) own started (by kernel_rfl) Try.func4
    (ChangeSpec.witness6 (enc := enc) (C := Try.checked) false ⟨#[], #[.agg #[.int .i64 0, .int .i64 0, .int .i64 0, .int .i64 0, .slice none 0 0]], []⟩ 8 (by kernel_rfl) (by kernel_rfl) (by kernel_rfl) (by kernel_rfl)) ?_
  intro W base args ds gs before hval0 hW hcnd _
  have hval : ∀ (j : Nat) t v, Try.f4.params[j]? = some t → args[j]? = some v → Value.okWide Try.prog W .any base t v := hval0
  have hW' := hW
  obtain ⟨p, q, hA0, hV, rfl, hfz, hnd⟩ := hW
  have hA : DataW.TrodAll enc Try.prog W 0 (fun _ => true) true Try.f4.params.toList args.toList ds p := hA0
  rw [Try.params4] at hA hval
  obtain ⟨v0, vs0, d0, ds0, p0, q0, hargs, rfl, rfl, h0, r0⟩ := trodAll_cons hA
  obtain ⟨rfl, rfl, rfl⟩ := trodAll_nil r0
  obtain rfl : args = #[v0] := by cases args; simp_all
  obtain ⟨rfl, rfl⟩ := trodVars_none hV
  have k0 := h0
  have lt0 : ∀ x ∈ p0, x.block < W.heap.size := by obtain ⟨m, hm⟩ := k0; exact DataW.trod_lt m _ _ _ hm
  obtain ⟨a0, b0, f0, s0, o0, cap0, l0, rfl, hm0, hR0, hB80⟩ := open_packet (hval 0 30 v0 rfl rfl) h0
  clear hA0 hval0
  refine (lawPacketBytes a0 b0 f0 s0 o0 cap0 l0 W hm0 hR0 hB80 ).mono fun e W' ⟨he, bel⟩ => ?_
  subst he
  exact ⟨_, rfl, _, _, _, [], _, [], hW', trodAll_mk1 (shut_bool Try.underlying4 _), (trodAll_cons_mk (Below.trod laidOut (by kernel_rfl) (of_decide_eq_true (by kernel_rfl)) k0 bel lt0) trodAll_mk0), rfl, bel.frame _, fun h => by cases h⟩

theorem fnExactPacketBytes_over : Rows.fnExactPacketBytesRow.holds Try.pinned (OpenSpec.ofChange Rows.fnExactPacketBytesSpec) :=
  OpenClaim.holds_of_wide 4 Try.f4 rfl rfl rfl rfl rfl rfl rfl ⟨rfl, rfl, rfl, rfl, rfl⟩ rfl rfl rfl rfl rfl (by kernel_rfl) Try.func4 (by kernel_rfl)
    (of_decide_eq_true (by kernel_rfl)) (by unfold Func.isWrapper; first | (rw [if_pos (by decide +kernel)]; kernel_rfl) | (rw [if_neg (by decide +kernel)]; exact ⟨rfl, rfl⟩))
    (fun os started H enc _ => fnExactPacketBytes_lifted os started H enc)

theorem fnExactPacketBytes_holds : Rows.FnExactPacketBytesSaid := fnExactPacketBytes_over

end Go.Proofs.Ytgpooddnkhhojag
