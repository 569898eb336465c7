import Derived.Test.YtefjhnhdagolhaaGreatQ17
namespace Go.Proofs.YtefjhnhdagolhaaGreat.int
open Go.RowKit
open M (upd upd_same upd_other Op Ver ETh ESt tw wds statusAt valueAt)
attribute [local go_sem ↓] Go.wp_at_zero Go.wp_at_succ
section
variable {σ : Type} {R : SR σ} {L : Lt} {S : Nat → Prop} {E E' : ESt σ} {w : World} {t : Nat}
theorem RE.recd (h : RE R L S E w) {r : Nat} (hr : r < 2 * L.n + 1) : w.cell? ⟨L.bP, r * 2, none⟩ = some (.slice (some ⟨L.bW r, 0, none⟩) (wds L.n) (wds L.n)) := by
  obtain ⟨sp, h1, -⟩ := h.po
  have := h1.cell hr (show 0 < 2 by decide)
  simpa using this
set_option maxRecDepth 20000 in
set_option maxHeartbeats 2000000 in
theorem takeStatus_w (h : RE R L S E w) (ht : t < L.n) (hr : (E.th t).found < 2 * L.n + 1) :
    Calls Tryz.prog 215 #[.pointer (some ⟨L.g, t * 28, none⟩)] w fun e w' => e = .returned (.tuple #[]) ∧ Left R L S w { E with th := upd E.th t (ETh.enter { E.th t with sta := E.rw (E.th t).found (statusAt L.n t) } 13) } w' := by
  obtain ⟨cv, cf, pv, hc, hcv, hcf, -, hf⟩ := h.cells ht rfl
  obtain ⟨c0, c1, rfl⟩ := list_cells hcv.1
  obtain ⟨d0, d1, rfl⟩ := list_cells hcf.1
  have hn := h.ok.n64
  have hn1 := h.ok.n1
  have c0 : w.cell? ⟨L.g, t * 28, none⟩ = some (.pointer (some ⟨L.bS, 0, none⟩)) := hc 0 _ (by decide) rfl
  have c1 := hc 1 _ (by decide) rfl
  have cfd := hc 24 _ (by decide) rfl
  have th : w.there L.g (t * 28 + 25) 1 := by obtain ⟨T, q, -⟩ := h.th; exact q.there (Nat.lt_of_lt_of_le ht h.ok.gn) (by decide)
  have s0 : w.cell? ⟨L.bS, 0, none⟩ = some (.int .i64 (L.n : Int)) := h.sh.cell_of rfl
  have s4 : w.cell? ⟨L.bS, 4, none⟩ = some (.slice (some ⟨L.bP, 0, none⟩) (2 * L.n + 1) (2 * L.n + 1)) := h.sh.cell_of rfl
  have p0 := h.recd hr
  have hsa : statusAt L.n t < wds L.n := by unfold statusAt wds; omega
  have hwd : wds L.n ≤ 200 := by unfold wds M.tw; omega
  have q0 : w.cell? ⟨L.bW (E.th t).found, statusAt L.n t, none⟩ = some (.int .i64 (E.rw (E.th t).found (statusAt L.n t))) := (h.rw _ hr).cell hsa
  generalize hk : statusAt L.n t = k at *
  have hr' : ((E.th t).found : Int) < 2 * (L.n : Int) + 1 := by omega
  have hk' : (k : Int) < (wds L.n : Int) := by omega
  have hSg : L.bS ≠ L.g := by obtain ⟨T, q, -⟩ := h.th; exact Row.apart h.sh q (by decide)
  have hPg : L.bP ≠ L.g := by obtain ⟨T, q, -⟩ := h.th; obtain ⟨sp, q2, -⟩ := h.po; exact Row.apart q2 q (by decide)
  have hWg : L.bW (E.th t).found ≠ L.g := by obtain ⟨T, q, -⟩ := h.th; exact Row.apart (h.rw _ hr) q (by decide)
  have HH := hide h
  clear h hc hf hcv hcf
  go_enter Tryz.func215, Tryz.ntmps215
  go_wp2
  refine wp_region_held_drew (S := (fun w' => w'.cell? ⟨L.g, t * 28, none⟩ = some (.pointer (some ⟨L.bS, 0, none⟩)) ∧ w'.cell? ⟨L.g, t * 28 + 1, none⟩ = some (.int .i64 (t : Int)) ∧ w'.cell? ⟨L.g, t * 28 + 24, none⟩ = some (.int .i64 ((E.th t).found : Int)) ∧ w'.cell? ⟨L.bS, 0, none⟩ = some (.int .i64 (L.n : Int)) ∧ w'.cell? ⟨L.bS, 4, none⟩ = some (.slice (some ⟨L.bP, 0, none⟩) (2 * L.n + 1) (2 * L.n + 1)) ∧ w'.cell? ⟨L.bP, (E.th t).found * 2, none⟩ = some (.slice (some ⟨L.bW (E.th t).found, 0, none⟩) (wds L.n) (wds L.n)) ∧ w'.cell? ⟨L.bW (E.th t).found, k, none⟩ = some (.int .i64 (E.rw (E.th t).found k)) ∧ w'.there (L.g) (t * 28 + 25) 1)) (by kernel_rfl) ?_ (fun hHeld => ?_)
  · exact ⟨c0, c1, cfd, s0, s4, p0, q0, th⟩
  refine wpAnyH_take (i := 0) (oi := ⟨some 2, .move (.tmp 0), 381, "thread.go:160", #[], none⟩) (v := ?v1323) rfl (by kernel_rfl) (by kernel_rfl) (by kernel_rfl) (fun _ _ _ h => h) (Or.inl ⟨by rfl, ?hy1323⟩) (by assumption) ?rest1323
  case hy1323 => (intro w hSw; (try dsimp only at hSw); go_simp; (try with_reducible rfl))
  (try go_frame)
  refine wpAnyH_take (i := 1) (oi := ⟨some 3, .move (.tmp 0), 381, "thread.go:160", #[], none⟩) (v := ?v1324) rfl (by kernel_rfl) (by kernel_rfl) (by kernel_rfl) (fun _ _ _ h => h) (Or.inl ⟨by rfl, ?hy1324⟩) (by assumption) ?rest1324
  case hy1324 => (intro w hSw; (try dsimp only at hSw); go_simp; (try with_reducible rfl))
  (try go_frame)
  refine wpAnyH_take (i := 2) (oi := ⟨some 4, .nilCheck (.tmp 3), 0, "thread.go:160", #[⟨1, .data⟩], none⟩) (v := ?v1325) rfl (by kernel_rfl) (by kernel_rfl) (by kernel_rfl) (fun _ _ _ h => h) (Or.inl ⟨by rfl, ?hy1325⟩) (by assumption) ?rest1325
  case hy1325 => (intro w hSw; (try dsimp only at hSw); go_simp; (try with_reducible rfl))
  (try go_frame)
  refine wpAnyH_take (i := 3) (oi := ⟨some 5, .fieldAddr 231 (.tmp 4) 0, 0, "thread.go:160", #[⟨2, .data⟩], none⟩) (v := ?v1326) rfl (by kernel_rfl) (by kernel_rfl) (by kernel_rfl) (fun _ _ _ h => h) (Or.inl ⟨by rfl, ?hy1326⟩) (by assumption) ?rest1326
  case hy1326 => (intro w hSw; (try dsimp only at hSw); go_simp; (try with_reducible rfl))
  (try go_frame)
  refine wpAnyH_take (i := 4) (oi := ⟨some 6, .load 215 (.tmp 5), 215, "thread.go:160", #[⟨3, .data⟩], none⟩) (v := ?v1327) rfl (by kernel_rfl) (by kernel_rfl) (by kernel_rfl) (fun _ _ _ h => h) (Or.inl ⟨by rfl, ?hy1327⟩) (by assumption) ?rest1327
  case hy1327 => (intro w hSw; (try dsimp only at hSw); go_simp; (try with_reducible rfl))
  (try go_frame)
  refine wpAnyH_take (i := 5) (oi := ⟨some 7, .nilCheck (.tmp 6), 0, "thread.go:160", #[⟨4, .data⟩], none⟩) (v := ?v1328) rfl (by kernel_rfl) (by kernel_rfl) (by kernel_rfl) (fun _ _ _ h => h) (Or.inl ⟨by rfl, ?hy1328⟩) (by assumption) ?rest1328
  case hy1328 => (intro w hSw; (try dsimp only at hSw); go_simp; (try with_reducible rfl))
  (try go_frame)
  refine wpAnyH_take (i := 6) (oi := ⟨some 8, .fieldAddr 296 (.tmp 7) 4, 0, "thread.go:160", #[⟨5, .data⟩], none⟩) (v := ?v1329) rfl (by kernel_rfl) (by kernel_rfl) (by kernel_rfl) (fun _ _ _ h => h) (Or.inl ⟨by rfl, ?hy1329⟩) (by assumption) ?rest1329
  case hy1329 => (intro w hSw; (try dsimp only at hSw); go_simp; (try with_reducible rfl))
  (try go_frame)
  refine wpAnyH_take (i := 7) (oi := ⟨some 9, .load 290 (.tmp 8), 290, "thread.go:160", #[⟨6, .data⟩], none⟩) (v := ?v1330) rfl (by kernel_rfl) (by kernel_rfl) (by kernel_rfl) (fun _ _ _ h => h) (Or.inl ⟨by rfl, ?hy1330⟩) (by assumption) ?rest1330
  case hy1330 => (intro w hSw; (try dsimp only at hSw); go_simp; (try with_reducible rfl))
  (try go_frame)
  refine wpAnyH_take (i := 8) (oi := ⟨some 10, .move (.tmp 0), 381, "thread.go:160", #[], none⟩) (v := ?v1331) rfl (by kernel_rfl) (by kernel_rfl) (by kernel_rfl) (fun _ _ _ h => h) (Or.inl ⟨by rfl, ?hy1331⟩) (by assumption) ?rest1331
  case hy1331 => (intro w hSw; (try dsimp only at hSw); go_simp; (try with_reducible rfl))
  (try go_frame)
  refine wpAnyH_take (i := 9) (oi := ⟨some 11, .nilCheck (.tmp 10), 0, "thread.go:160", #[⟨8, .data⟩], none⟩) (v := ?v1332) rfl (by kernel_rfl) (by kernel_rfl) (by kernel_rfl) (fun _ _ _ h => h) (Or.inl ⟨by rfl, ?hy1332⟩) (by assumption) ?rest1332
  case hy1332 => (intro w hSw; (try dsimp only at hSw); go_simp; (try with_reducible rfl))
  (try go_frame)
  refine wpAnyH_take (i := 10) (oi := ⟨some 12, .fieldAddr 231 (.tmp 11) 16, 0, "thread.go:160", #[⟨9, .data⟩], none⟩) (v := ?v1333) rfl (by kernel_rfl) (by kernel_rfl) (by kernel_rfl) (fun _ _ _ h => h) (Or.inl ⟨by rfl, ?hy1333⟩) (by assumption) ?rest1333
  case hy1333 => (intro w hSw; (try dsimp only at hSw); go_simp; (try with_reducible rfl))
  (try go_frame)
  refine wpAnyH_take (i := 11) (oi := ⟨some 13, .load 3 (.tmp 12), 3, "thread.go:160", #[⟨10, .data⟩], none⟩) (v := ?v1334) rfl (by kernel_rfl) (by kernel_rfl) (by kernel_rfl) (fun _ _ _ h => h) (Or.inl ⟨by rfl, ?hy1334⟩) (by assumption) ?rest1334
  case hy1334 => (intro w hSw; (try dsimp only at hSw); go_simp; (try with_reducible rfl))
  (try go_frame)
  refine wpAnyH_take (i := 12) (oi := ⟨some 14, .indexAddr 290 (.tmp 9) (.tmp 13), 0, "thread.go:160", #[⟨7, .data⟩, ⟨11, .data⟩], none⟩) (v := ?v1335) rfl (by kernel_rfl) (by kernel_rfl) (by kernel_rfl) (fun _ _ _ h => h) (Or.inl ⟨by rfl, ?hy1335⟩) (by assumption) ?rest1335
  case hy1335 => (intro w hSw; (try dsimp only at hSw); go_simp; (try with_reducible rfl))
  (try go_frame)
  refine wpAnyH_take (i := 13) (oi := ⟨some 15, .fieldAddr 304 (.tmp 14) 0, 0, "thread.go:160", #[⟨12, .data⟩], none⟩) (v := ?v1336) rfl (by kernel_rfl) (by kernel_rfl) (by kernel_rfl) (fun _ _ _ h => h) (Or.inl ⟨by rfl, ?hy1336⟩) (by assumption) ?rest1336
  case hy1336 => (intro w hSw; (try dsimp only at hSw); go_simp; (try with_reducible rfl))
  (try go_frame)
  refine wpAnyH_take (i := 14) (oi := ⟨some 16, .load 288 (.tmp 15), 288, "thread.go:160", #[⟨13, .data⟩], none⟩) (v := ?v1337) rfl (by kernel_rfl) (by kernel_rfl) (by kernel_rfl) (fun _ _ _ h => h) (Or.inl ⟨by rfl, ?hy1337⟩) (by assumption) ?rest1337
  case hy1337 => (intro w hSw; (try dsimp only at hSw); go_simp; (try with_reducible rfl))
  (try go_frame)
  refine wpAnyH_take (i := 15) (oi := ⟨some 17, .move (.tmp 0), 381, "thread.go:160", #[], none⟩) (v := ?v1338) rfl (by kernel_rfl) (by kernel_rfl) (by kernel_rfl) (fun _ _ _ h => h) (Or.inl ⟨by rfl, ?hy1338⟩) (by assumption) ?rest1338
  case hy1338 => (intro w hSw; (try dsimp only at hSw); go_simp; (try with_reducible rfl))
  (try go_frame)
  refine wpAnyH_take (i := 16) (oi := ⟨some 18, .nilCheck (.tmp 17), 0, "thread.go:160", #[⟨15, .data⟩], none⟩) (v := ?v1339) rfl (by kernel_rfl) (by kernel_rfl) (by kernel_rfl) (fun _ _ _ h => h) (Or.inl ⟨by rfl, ?hy1339⟩) (by assumption) ?rest1339
  case hy1339 => (intro w hSw; (try dsimp only at hSw); go_simp; (try with_reducible rfl))
  (try go_frame)
  refine wpAnyH_take (i := 17) (oi := ⟨some 19, .fieldAddr 231 (.tmp 18) 0, 0, "thread.go:160", #[⟨16, .data⟩], none⟩) (v := ?v1340) rfl (by kernel_rfl) (by kernel_rfl) (by kernel_rfl) (fun _ _ _ h => h) (Or.inl ⟨by rfl, ?hy1340⟩) (by assumption) ?rest1340
  case hy1340 => (intro w hSw; (try dsimp only at hSw); go_simp; (try with_reducible rfl))
  (try go_frame)
  refine wpAnyH_take (i := 18) (oi := ⟨some 20, .load 215 (.tmp 19), 215, "thread.go:160", #[⟨17, .data⟩], none⟩) (v := ?v1341) rfl (by kernel_rfl) (by kernel_rfl) (by kernel_rfl) (fun _ _ _ h => h) (Or.inl ⟨by rfl, ?hy1341⟩) (by assumption) ?rest1341
  case hy1341 => (intro w hSw; (try dsimp only at hSw); go_simp; (try with_reducible rfl))
  (try go_frame)
  refine wpAnyH_take (i := 19) (oi := ⟨some 21, .nilCheck (.tmp 20), 0, "thread.go:160", #[⟨18, .data⟩], none⟩) (v := ?v1342) rfl (by kernel_rfl) (by kernel_rfl) (by kernel_rfl) (fun _ _ _ h => h) (Or.inl ⟨by rfl, ?hy1342⟩) (by assumption) ?rest1342
  case hy1342 => (intro w hSw; (try dsimp only at hSw); go_simp; (try with_reducible rfl))
  (try go_frame)
  refine wpAnyH_take (i := 20) (oi := ⟨some 22, .fieldAddr 296 (.tmp 21) 0, 0, "thread.go:160", #[⟨19, .data⟩], none⟩) (v := ?v1343) rfl (by kernel_rfl) (by kernel_rfl) (by kernel_rfl) (fun _ _ _ h => h) (Or.inl ⟨by rfl, ?hy1343⟩) (by assumption) ?rest1343
  case hy1343 => (intro w hSw; (try dsimp only at hSw); go_simp; (try with_reducible rfl))
  (try go_frame)
  refine wpAnyH_take (i := 21) (oi := ⟨some 23, .load 287 (.tmp 22), 287, "thread.go:160", #[⟨20, .data⟩], none⟩) (v := ?v1344) rfl (by kernel_rfl) (by kernel_rfl) (by kernel_rfl) (fun _ _ _ h => h) (Or.inl ⟨by rfl, ?hy1344⟩) (by assumption) ?rest1344
  case hy1344 => (intro w hSw; (try dsimp only at hSw); go_simp; (try with_reducible rfl))
  (try go_frame)
  refine wpAnyH_take (i := 22) (oi := ⟨some 24, .move (.tmp 0), 381, "thread.go:160", #[], none⟩) (v := ?v1345) rfl (by kernel_rfl) (by kernel_rfl) (by kernel_rfl) (fun _ _ _ h => h) (Or.inl ⟨by rfl, ?hy1345⟩) (by assumption) ?rest1345
  case hy1345 => (intro w hSw; (try dsimp only at hSw); go_simp; (try with_reducible rfl))
  (try go_frame)
  refine wpAnyH_take (i := 23) (oi := ⟨some 25, .nilCheck (.tmp 24), 0, "thread.go:160", #[⟨22, .data⟩], none⟩) (v := ?v1346) rfl (by kernel_rfl) (by kernel_rfl) (by kernel_rfl) (fun _ _ _ h => h) (Or.inl ⟨by rfl, ?hy1346⟩) (by assumption) ?rest1346
  case hy1346 => (intro w hSw; (try dsimp only at hSw); go_simp; (try with_reducible rfl))
  (try go_frame)
  refine wpAnyH_take (i := 24) (oi := ⟨some 26, .fieldAddr 231 (.tmp 25) 1, 0, "thread.go:160", #[⟨23, .data⟩], none⟩) (v := ?v1347) rfl (by kernel_rfl) (by kernel_rfl) (by kernel_rfl) (fun _ _ _ h => h) (Or.inl ⟨by rfl, ?hy1347⟩) (by assumption) ?rest1347
  case hy1347 => (intro w hSw; (try dsimp only at hSw); go_simp; (try with_reducible rfl))
  (try go_frame)
  refine wpAnyH_take (i := 25) (oi := ⟨some 27, .load 3 (.tmp 26), 3, "thread.go:160", #[⟨24, .data⟩], none⟩) (v := ?v1348) rfl (by kernel_rfl) (by kernel_rfl) (by kernel_rfl) (fun _ _ _ h => h) (Or.inl ⟨by rfl, ?hy1348⟩) (by assumption) ?rest1348
  case hy1348 => (intro w hSw; (try dsimp only at hSw); go_simp; (try with_reducible rfl))
  (try go_frame)
  refine wpAnyH_ready (rs := [26]) (by kernel_rfl) (by simp) ?_
  refine AllReadyH.cons (o := ⟨some 28, .call ⟨.value (.func 236), #[.tmp 23, .tmp 27], #[287, 3]⟩, 3, "thread.go:160", #[⟨21, .data⟩, ⟨25, .data⟩], none⟩) (by rfl) (fun K hK => ?_) AllReadyH.nil
  go_simp
  refine (statusAt_any L.n t _ hn1 hn ht).mono ?_
  rintro e w2 ⟨rfl, hb2⟩
  rw [hk]
  go_wp2_with fail
  refine hK.out _ _ ?_ (fun hHeld => ?_)
  · exact ⟨cell_later hb2 hHeld.1, cell_later hb2 hHeld.2.1, cell_later hb2 hHeld.2.2.1, cell_later hb2 hHeld.2.2.2.1, cell_later hb2 hHeld.2.2.2.2.1, cell_later hb2 hHeld.2.2.2.2.2.1, cell_later hb2 hHeld.2.2.2.2.2.2.1, there_later hb2 hHeld.2.2.2.2.2.2.2⟩
  clear hK K
  (try go_frame)
  refine wpAnyH_take (i := 27) (oi := ⟨some 29, .indexAddr 288 (.tmp 16) (.tmp 28), 0, "thread.go:160", #[⟨14, .data⟩, ⟨26, .data⟩], none⟩) (v := ?v1349) rfl (by kernel_rfl) (by kernel_rfl) (by kernel_rfl) (fun _ _ _ h => h) (Or.inl ⟨by rfl, ?hy1349⟩) (by assumption) ?rest1349
  case hy1349 => (intro w hSw; (try dsimp only at hSw); go_simp; (try with_reducible rfl))
  (try go_frame)
  refine wpAnyH_ready (rs := [28]) (by kernel_rfl) (by simp) ?_
  refine AllReadyH.cons (o := ⟨some 30, .call ⟨.value (.func 225), #[.tmp 29], #[387]⟩, 3, "thread.go:160", #[⟨27, .data⟩, ⟨26, .chain⟩], none⟩) (by rfl) (fun K hK => ?_) AllReadyH.nil
  go_simp
  refine (wordRead (L.bW (E.th t).found) k _ _ hHeld.2.2.2.2.2.2.1).mono ?_
  rintro e w3 ⟨rfl, rfl⟩
  go_wp2_with fail
  refine hK.out _ _ ?_ (fun hHeld => ?_)
  · exact hHeld
  clear hK K
  (try go_frame)
  refine wpAnyH_take (i := 29) (oi := ⟨some 31, .nilCheck (.tmp 2), 0, "thread.go:160", #[⟨0, .data⟩, ⟨0, .phase⟩, ⟨1, .phase⟩, ⟨2, .phase⟩, ⟨3, .phase⟩, ⟨4, .phase⟩, ⟨5, .phase⟩, ⟨6, .phase⟩, ⟨7, .phase⟩, ⟨8, .phase⟩, ⟨9, .phase⟩, ⟨10, .phase⟩, ⟨11, .phase⟩, ⟨12, .phase⟩, ⟨13, .phase⟩, ⟨14, .phase⟩, ⟨15, .phase⟩, ⟨16, .phase⟩, ⟨17, .phase⟩, ⟨18, .phase⟩, ⟨19, .phase⟩, ⟨20, .phase⟩, ⟨21, .phase⟩, ⟨22, .phase⟩, ⟨23, .phase⟩, ⟨24, .phase⟩, ⟨25, .phase⟩, ⟨26, .phase⟩, ⟨27, .phase⟩, ⟨28, .phase⟩], none⟩) (v := ?v1350) rfl (by kernel_rfl) (by kernel_rfl) (by kernel_rfl) (fun _ _ _ h => h) (Or.inl ⟨by rfl, ?hy1350⟩) (by assumption) ?rest1350
  case hy1350 => (intro w hSw; (try dsimp only at hSw); go_simp; (try with_reducible rfl))
  (try go_frame)
  refine wpAnyH_take (i := 30) (oi := ⟨some 32, .fieldAddr 231 (.tmp 31) 17, 0, "thread.go:160", #[⟨29, .data⟩, ⟨0, .phase⟩, ⟨1, .phase⟩, ⟨2, .phase⟩, ⟨3, .phase⟩, ⟨4, .phase⟩, ⟨5, .phase⟩, ⟨6, .phase⟩, ⟨7, .phase⟩, ⟨8, .phase⟩, ⟨9, .phase⟩, ⟨10, .phase⟩, ⟨11, .phase⟩, ⟨12, .phase⟩, ⟨13, .phase⟩, ⟨14, .phase⟩, ⟨15, .phase⟩, ⟨16, .phase⟩, ⟨17, .phase⟩, ⟨18, .phase⟩, ⟨19, .phase⟩, ⟨20, .phase⟩, ⟨21, .phase⟩, ⟨22, .phase⟩, ⟨23, .phase⟩, ⟨24, .phase⟩, ⟨25, .phase⟩, ⟨26, .phase⟩, ⟨27, .phase⟩, ⟨28, .phase⟩], none⟩) (v := ?v1351) rfl (by kernel_rfl) (by kernel_rfl) (by kernel_rfl) (fun _ _ _ h => h) (Or.inl ⟨by rfl, ?hy1351⟩) (by assumption) ?rest1351
  case hy1351 => (intro w hSw; (try dsimp only at hSw); go_simp; (try with_reducible rfl))
  (try go_frame)
  refine wpAnyH_take (i := 31) (oi := ⟨some 33, .fieldAddr 94 (.tmp 32) 0, 0, "thread.go:160", #[⟨30, .data⟩, ⟨0, .phase⟩, ⟨1, .phase⟩, ⟨2, .phase⟩, ⟨3, .phase⟩, ⟨4, .phase⟩, ⟨5, .phase⟩, ⟨6, .phase⟩, ⟨7, .phase⟩, ⟨8, .phase⟩, ⟨9, .phase⟩, ⟨10, .phase⟩, ⟨11, .phase⟩, ⟨12, .phase⟩, ⟨13, .phase⟩, ⟨14, .phase⟩, ⟨15, .phase⟩, ⟨16, .phase⟩, ⟨17, .phase⟩, ⟨18, .phase⟩, ⟨19, .phase⟩, ⟨20, .phase⟩, ⟨21, .phase⟩, ⟨22, .phase⟩, ⟨23, .phase⟩, ⟨24, .phase⟩, ⟨25, .phase⟩, ⟨26, .phase⟩, ⟨27, .phase⟩, ⟨28, .phase⟩], none⟩) (v := ?v1352) rfl (by kernel_rfl) (by kernel_rfl) (by kernel_rfl) (fun _ _ _ h => h) (Or.inl ⟨by rfl, ?hy1352⟩) (by assumption) ?rest1352
  case hy1352 => (intro w hSw; (try dsimp only at hSw); go_simp; (try with_reducible rfl))
  (try go_frame)
  refine wpAnyH_ready (rs := [32]) (by kernel_rfl) (by simp) ?_
  refine AllReadyH.cons (o := ⟨none, .store 3 (.tmp 33) (.tmp 30), 0, "thread.go:160", #[⟨31, .data⟩, ⟨28, .data⟩, ⟨28, .chain⟩, ⟨0, .phase⟩, ⟨1, .phase⟩, ⟨2, .phase⟩, ⟨3, .phase⟩, ⟨4, .phase⟩, ⟨5, .phase⟩, ⟨6, .phase⟩, ⟨7, .phase⟩, ⟨8, .phase⟩, ⟨9, .phase⟩, ⟨10, .phase⟩, ⟨11, .phase⟩, ⟨12, .phase⟩, ⟨13, .phase⟩, ⟨14, .phase⟩, ⟨15, .phase⟩, ⟨16, .phase⟩, ⟨17, .phase⟩, ⟨18, .phase⟩, ⟨19, .phase⟩, ⟨20, .phase⟩, ⟨21, .phase⟩, ⟨22, .phase⟩, ⟨23, .phase⟩, ⟨24, .phase⟩, ⟨25, .phase⟩, ⟨26, .phase⟩, ⟨27, .phase⟩, ⟨28, .phase⟩], none⟩) (by rfl) (fun K hK => ?_) AllReadyH.nil
  rw [if_pos (by rfl)]
  refine wp_store_one _ _ _ rfl L.g (t * 28 + 25) (.int .i64 (E.rw (E.th t).found k)) rfl rfl rfl rfl hHeld.2.2.2.2.2.2.2 (by kernel_rfl) ?_
  refine hK.out _ _ ?_ (fun hHeld => ?_)
  · exact ⟨cell_kept hHeld.1 (by first | exact .inr (by dsimp only; omega) | exact .inl (by assumption) | exact .inl (Ne.symm (by assumption))), cell_kept hHeld.2.1 (by first | exact .inr (by dsimp only; omega) | exact .inl (by assumption) | exact .inl (Ne.symm (by assumption))), cell_kept hHeld.2.2.1 (by first | exact .inr (by dsimp only; omega) | exact .inl (by assumption) | exact .inl (Ne.symm (by assumption))), cell_kept hHeld.2.2.2.1 (by first | exact .inr (by dsimp only; omega) | exact .inl (by assumption) | exact .inl (Ne.symm (by assumption))), cell_kept hHeld.2.2.2.2.1 (by first | exact .inr (by dsimp only; omega) | exact .inl (by assumption) | exact .inl (Ne.symm (by assumption))), cell_kept hHeld.2.2.2.2.2.1 (by first | exact .inr (by dsimp only; omega) | exact .inl (by assumption) | exact .inl (Ne.symm (by assumption))), cell_kept hHeld.2.2.2.2.2.2.1 (by first | exact .inr (by dsimp only; omega) | exact .inl (by assumption) | exact .inl (Ne.symm (by assumption))), there_set hHeld.2.2.2.2.2.2.2 _ rfl _⟩
  clear hK K
  (try go_frame)
  refine wpAnyH_done (by kernel_rfl) ?_ _
  have hb3 := Below.undrew hb2
  have r3 := HH.out.below hb3
  obtain ⟨h1, k1⟩ := r3.cell1 ht 25 (by decide) (.int .i64 (E.rw (E.th t).found k)) { E.th t with sta := E.rw (E.th t).found k } rfl rfl rfl rfl rfl (by intros; rfl)
  have HL := hide (Left.below HH.out hb3)
  have H1 := hide h1
  have K1 := hide k1
  clear h1 k1 r3 hHeld hb2 hb3
  go_wp2_with fail
  refine (enter_w H1.out ht 13).mono ?_
  rintro e w4 ⟨rfl, r4, k4⟩
  have HR := hide (And.intro r4 k4)
  clear r4 k4
  go_wp2
  refine bodyPost_end (v := .tuple #[]) (by simp [results, Tryz.results215, go_sem]) rfl ⟨rfl, HL.out.next (Left.of (HR.out.1.cast ?_) (K1.out.trans HR.out.2) rfl)⟩
  simp only [upd_upd, upd_same]
set_option maxRecDepth 20000 in
set_option maxHeartbeats 2000000 in
theorem takeValue_w (h : RE R L S E w) (ht : t < L.n) (hr : (E.th t).found < 2 * L.n + 1) :
    Calls Tryz.prog 216 #[.pointer (some ⟨L.g, t * 28, none⟩)] w fun e w' => e = .returned (.tuple #[]) ∧ Left R L S w { E with th := upd E.th t (ETh.enter { E.th t with val := E.rw (E.th t).found (valueAt L.n t), ended := true } 0) } w' := by
  obtain ⟨cv, cf, pv, hc, hcv, hcf, -, hf⟩ := h.cells ht rfl
  obtain ⟨c0, c1, rfl⟩ := list_cells hcv.1
  obtain ⟨d0, d1, rfl⟩ := list_cells hcf.1
  have hn := h.ok.n64
  have hn1 := h.ok.n1
  have c0 : w.cell? ⟨L.g, t * 28, none⟩ = some (.pointer (some ⟨L.bS, 0, none⟩)) := hc 0 _ (by decide) rfl
  have c1 := hc 1 _ (by decide) rfl
  have cfd := hc 24 _ (by decide) rfl
  have th : w.there L.g (t * 28 + 26) 1 := by obtain ⟨T, q, -⟩ := h.th; exact q.there (Nat.lt_of_lt_of_le ht h.ok.gn) (by decide)
  have s0 : w.cell? ⟨L.bS, 0, none⟩ = some (.int .i64 (L.n : Int)) := h.sh.cell_of rfl
  have s4 : w.cell? ⟨L.bS, 4, none⟩ = some (.slice (some ⟨L.bP, 0, none⟩) (2 * L.n + 1) (2 * L.n + 1)) := h.sh.cell_of rfl
  have p0 := h.recd hr
  have hsa : valueAt L.n t < wds L.n := by unfold valueAt wds; omega
  have hwd : wds L.n ≤ 200 := by unfold wds M.tw; omega
  have q0 : w.cell? ⟨L.bW (E.th t).found, valueAt L.n t, none⟩ = some (.int .i64 (E.rw (E.th t).found (valueAt L.n t))) := (h.rw _ hr).cell hsa
  generalize hk : valueAt L.n t = k at *
  have hr' : ((E.th t).found : Int) < 2 * (L.n : Int) + 1 := by omega
  have hk' : (k : Int) < (wds L.n : Int) := by omega
  have hSg : L.bS ≠ L.g := by obtain ⟨T, q, -⟩ := h.th; exact Row.apart h.sh q (by decide)
  have hPg : L.bP ≠ L.g := by obtain ⟨T, q, -⟩ := h.th; obtain ⟨sp, q2, -⟩ := h.po; exact Row.apart q2 q (by decide)
  have hWg : L.bW (E.th t).found ≠ L.g := by obtain ⟨T, q, -⟩ := h.th; exact Row.apart (h.rw _ hr) q (by decide)
  have HH := hide h
  clear h hc hf hcv hcf
  go_enter Tryz.func216, Tryz.ntmps216
  go_wp2
  refine wp_region_held_drew (S := (fun w' => w'.cell? ⟨L.g, t * 28, none⟩ = some (.pointer (some ⟨L.bS, 0, none⟩)) ∧ w'.cell? ⟨L.g, t * 28 + 1, none⟩ = some (.int .i64 (t : Int)) ∧ w'.cell? ⟨L.g, t * 28 + 24, none⟩ = some (.int .i64 ((E.th t).found : Int)) ∧ w'.cell? ⟨L.bS, 0, none⟩ = some (.int .i64 (L.n : Int)) ∧ w'.cell? ⟨L.bS, 4, none⟩ = some (.slice (some ⟨L.bP, 0, none⟩) (2 * L.n + 1) (2 * L.n + 1)) ∧ w'.cell? ⟨L.bP, (E.th t).found * 2, none⟩ = some (.slice (some ⟨L.bW (E.th t).found, 0, none⟩) (wds L.n) (wds L.n)) ∧ w'.cell? ⟨L.bW (E.th t).found, k, none⟩ = some (.int .i64 (E.rw (E.th t).found k)) ∧ w'.there (L.g) (t * 28 + 26) 1)) (by kernel_rfl) ?_ (fun hHeld => ?_)
  · exact ⟨c0, c1, cfd, s0, s4, p0, q0, th⟩
  refine wpAnyH_take (i := 0) (oi := ⟨some 2, .move (.tmp 0), 381, "thread.go:165", #[], none⟩) (v := ?v1353) rfl (by kernel_rfl) (by kernel_rfl) (by kernel_rfl) (fun _ _ _ h => h) (Or.inl ⟨by rfl, ?hy1353⟩) (by assumption) ?rest1353
  case hy1353 => (intro w hSw; (try dsimp only at hSw); go_simp; (try with_reducible rfl))
  (try go_frame)
  refine wpAnyH_take (i := 1) (oi := ⟨some 3, .move (.tmp 0), 381, "thread.go:165", #[], none⟩) (v := ?v1354) rfl (by kernel_rfl) (by kernel_rfl) (by kernel_rfl) (fun _ _ _ h => h) (Or.inl ⟨by rfl, ?hy1354⟩) (by assumption) ?rest1354
  case hy1354 => (intro w hSw; (try dsimp only at hSw); go_simp; (try with_reducible rfl))
  (try go_frame)
  refine wpAnyH_take (i := 2) (oi := ⟨some 4, .nilCheck (.tmp 3), 0, "thread.go:165", #[⟨1, .data⟩], none⟩) (v := ?v1355) rfl (by kernel_rfl) (by kernel_rfl) (by kernel_rfl) (fun _ _ _ h => h) (Or.inl ⟨by rfl, ?hy1355⟩) (by assumption) ?rest1355
  case hy1355 => (intro w hSw; (try dsimp only at hSw); go_simp; (try with_reducible rfl))
  (try go_frame)
  refine wpAnyH_take (i := 3) (oi := ⟨some 5, .fieldAddr 231 (.tmp 4) 0, 0, "thread.go:165", #[⟨2, .data⟩], none⟩) (v := ?v1356) rfl (by kernel_rfl) (by kernel_rfl) (by kernel_rfl) (fun _ _ _ h => h) (Or.inl ⟨by rfl, ?hy1356⟩) (by assumption) ?rest1356
  case hy1356 => (intro w hSw; (try dsimp only at hSw); go_simp; (try with_reducible rfl))
  (try go_frame)
  refine wpAnyH_take (i := 4) (oi := ⟨some 6, .load 215 (.tmp 5), 215, "thread.go:165", #[⟨3, .data⟩], none⟩) (v := ?v1357) rfl (by kernel_rfl) (by kernel_rfl) (by kernel_rfl) (fun _ _ _ h => h) (Or.inl ⟨by rfl, ?hy1357⟩) (by assumption) ?rest1357
  case hy1357 => (intro w hSw; (try dsimp only at hSw); go_simp; (try with_reducible rfl))
  (try go_frame)
  refine wpAnyH_take (i := 5) (oi := ⟨some 7, .nilCheck (.tmp 6), 0, "thread.go:165", #[⟨4, .data⟩], none⟩) (v := ?v1358) rfl (by kernel_rfl) (by kernel_rfl) (by kernel_rfl) (fun _ _ _ h => h) (Or.inl ⟨by rfl, ?hy1358⟩) (by assumption) ?rest1358
  case hy1358 => (intro w hSw; (try dsimp only at hSw); go_simp; (try with_reducible rfl))
  (try go_frame)
  refine wpAnyH_take (i := 6) (oi := ⟨some 8, .fieldAddr 296 (.tmp 7) 4, 0, "thread.go:165", #[⟨5, .data⟩], none⟩) (v := ?v1359) rfl (by kernel_rfl) (by kernel_rfl) (by kernel_rfl) (fun _ _ _ h => h) (Or.inl ⟨by rfl, ?hy1359⟩) (by assumption) ?rest1359
  case hy1359 => (intro w hSw; (try dsimp only at hSw); go_simp; (try with_reducible rfl))
  (try go_frame)
  refine wpAnyH_take (i := 7) (oi := ⟨some 9, .load 290 (.tmp 8), 290, "thread.go:165", #[⟨6, .data⟩], none⟩) (v := ?v1360) rfl (by kernel_rfl) (by kernel_rfl) (by kernel_rfl) (fun _ _ _ h => h) (Or.inl ⟨by rfl, ?hy1360⟩) (by assumption) ?rest1360
  case hy1360 => (intro w hSw; (try dsimp only at hSw); go_simp; (try with_reducible rfl))
  (try go_frame)
  refine wpAnyH_take (i := 8) (oi := ⟨some 10, .move (.tmp 0), 381, "thread.go:165", #[], none⟩) (v := ?v1361) rfl (by kernel_rfl) (by kernel_rfl) (by kernel_rfl) (fun _ _ _ h => h) (Or.inl ⟨by rfl, ?hy1361⟩) (by assumption) ?rest1361
  case hy1361 => (intro w hSw; (try dsimp only at hSw); go_simp; (try with_reducible rfl))
  (try go_frame)
  refine wpAnyH_take (i := 9) (oi := ⟨some 11, .nilCheck (.tmp 10), 0, "thread.go:165", #[⟨8, .data⟩], none⟩) (v := ?v1362) rfl (by kernel_rfl) (by kernel_rfl) (by kernel_rfl) (fun _ _ _ h => h) (Or.inl ⟨by rfl, ?hy1362⟩) (by assumption) ?rest1362
  case hy1362 => (intro w hSw; (try dsimp only at hSw); go_simp; (try with_reducible rfl))
  (try go_frame)
  refine wpAnyH_take (i := 10) (oi := ⟨some 12, .fieldAddr 231 (.tmp 11) 16, 0, "thread.go:165", #[⟨9, .data⟩], none⟩) (v := ?v1363) rfl (by kernel_rfl) (by kernel_rfl) (by kernel_rfl) (fun _ _ _ h => h) (Or.inl ⟨by rfl, ?hy1363⟩) (by assumption) ?rest1363
  case hy1363 => (intro w hSw; (try dsimp only at hSw); go_simp; (try with_reducible rfl))
  (try go_frame)
  refine wpAnyH_take (i := 11) (oi := ⟨some 13, .load 3 (.tmp 12), 3, "thread.go:165", #[⟨10, .data⟩], none⟩) (v := ?v1364) rfl (by kernel_rfl) (by kernel_rfl) (by kernel_rfl) (fun _ _ _ h => h) (Or.inl ⟨by rfl, ?hy1364⟩) (by assumption) ?rest1364
  case hy1364 => (intro w hSw; (try dsimp only at hSw); go_simp; (try with_reducible rfl))
  (try go_frame)
  refine wpAnyH_take (i := 12) (oi := ⟨some 14, .indexAddr 290 (.tmp 9) (.tmp 13), 0, "thread.go:165", #[⟨7, .data⟩, ⟨11, .data⟩], none⟩) (v := ?v1365) rfl (by kernel_rfl) (by kernel_rfl) (by kernel_rfl) (fun _ _ _ h => h) (Or.inl ⟨by rfl, ?hy1365⟩) (by assumption) ?rest1365
  case hy1365 => (intro w hSw; (try dsimp only at hSw); go_simp; (try with_reducible rfl))
  (try go_frame)
  refine wpAnyH_take (i := 13) (oi := ⟨some 15, .fieldAddr 304 (.tmp 14) 0, 0, "thread.go:165", #[⟨12, .data⟩], none⟩) (v := ?v1366) rfl (by kernel_rfl) (by kernel_rfl) (by kernel_rfl) (fun _ _ _ h => h) (Or.inl ⟨by rfl, ?hy1366⟩) (by assumption) ?rest1366
  case hy1366 => (intro w hSw; (try dsimp only at hSw); go_simp; (try with_reducible rfl))
  (try go_frame)
  refine wpAnyH_take (i := 14) (oi := ⟨some 16, .load 288 (.tmp 15), 288, "thread.go:165", #[⟨13, .data⟩], none⟩) (v := ?v1367) rfl (by kernel_rfl) (by kernel_rfl) (by kernel_rfl) (fun _ _ _ h => h) (Or.inl ⟨by rfl, ?hy1367⟩) (by assumption) ?rest1367
  case hy1367 => (intro w hSw; (try dsimp only at hSw); go_simp; (try with_reducible rfl))
  (try go_frame)
  refine wpAnyH_take (i := 15) (oi := ⟨some 17, .move (.tmp 0), 381, "thread.go:165", #[], none⟩) (v := ?v1368) rfl (by kernel_rfl) (by kernel_rfl) (by kernel_rfl) (fun _ _ _ h => h) (Or.inl ⟨by rfl, ?hy1368⟩) (by assumption) ?rest1368
  case hy1368 => (intro w hSw; (try dsimp only at hSw); go_simp; (try with_reducible rfl))
  (try go_frame)
  refine wpAnyH_take (i := 16) (oi := ⟨some 18, .nilCheck (.tmp 17), 0, "thread.go:165", #[⟨15, .data⟩], none⟩) (v := ?v1369) rfl (by kernel_rfl) (by kernel_rfl) (by kernel_rfl) (fun _ _ _ h => h) (Or.inl ⟨by rfl, ?hy1369⟩) (by assumption) ?rest1369
  case hy1369 => (intro w hSw; (try dsimp only at hSw); go_simp; (try with_reducible rfl))
  (try go_frame)
  refine wpAnyH_take (i := 17) (oi := ⟨some 19, .fieldAddr 231 (.tmp 18) 0, 0, "thread.go:165", #[⟨16, .data⟩], none⟩) (v := ?v1370) rfl (by kernel_rfl) (by kernel_rfl) (by kernel_rfl) (fun _ _ _ h => h) (Or.inl ⟨by rfl, ?hy1370⟩) (by assumption) ?rest1370
  case hy1370 => (intro w hSw; (try dsimp only at hSw); go_simp; (try with_reducible rfl))
  (try go_frame)
  refine wpAnyH_take (i := 18) (oi := ⟨some 20, .load 215 (.tmp 19), 215, "thread.go:165", #[⟨17, .data⟩], none⟩) (v := ?v1371) rfl (by kernel_rfl) (by kernel_rfl) (by kernel_rfl) (fun _ _ _ h => h) (Or.inl ⟨by rfl, ?hy1371⟩) (by assumption) ?rest1371
  case hy1371 => (intro w hSw; (try dsimp only at hSw); go_simp; (try with_reducible rfl))
  (try go_frame)
  refine wpAnyH_take (i := 19) (oi := ⟨some 21, .nilCheck (.tmp 20), 0, "thread.go:165", #[⟨18, .data⟩], none⟩) (v := ?v1372) rfl (by kernel_rfl) (by kernel_rfl) (by kernel_rfl) (fun _ _ _ h => h) (Or.inl ⟨by rfl, ?hy1372⟩) (by assumption) ?rest1372
  case hy1372 => (intro w hSw; (try dsimp only at hSw); go_simp; (try with_reducible rfl))
  (try go_frame)
  refine wpAnyH_take (i := 20) (oi := ⟨some 22, .fieldAddr 296 (.tmp 21) 0, 0, "thread.go:165", #[⟨19, .data⟩], none⟩) (v := ?v1373) rfl (by kernel_rfl) (by kernel_rfl) (by kernel_rfl) (fun _ _ _ h => h) (Or.inl ⟨by rfl, ?hy1373⟩) (by assumption) ?rest1373
  case hy1373 => (intro w hSw; (try dsimp only at hSw); go_simp; (try with_reducible rfl))
  (try go_frame)
  refine wpAnyH_take (i := 21) (oi := ⟨some 23, .load 287 (.tmp 22), 287, "thread.go:165", #[⟨20, .data⟩], none⟩) (v := ?v1374) rfl (by kernel_rfl) (by kernel_rfl) (by kernel_rfl) (fun _ _ _ h => h) (Or.inl ⟨by rfl, ?hy1374⟩) (by assumption) ?rest1374
  case hy1374 => (intro w hSw; (try dsimp only at hSw); go_simp; (try with_reducible rfl))
  (try go_frame)
  refine wpAnyH_take (i := 22) (oi := ⟨some 24, .move (.tmp 0), 381, "thread.go:165", #[], none⟩) (v := ?v1375) rfl (by kernel_rfl) (by kernel_rfl) (by kernel_rfl) (fun _ _ _ h => h) (Or.inl ⟨by rfl, ?hy1375⟩) (by assumption) ?rest1375
  case hy1375 => (intro w hSw; (try dsimp only at hSw); go_simp; (try with_reducible rfl))
  (try go_frame)
  refine wpAnyH_take (i := 23) (oi := ⟨some 25, .nilCheck (.tmp 24), 0, "thread.go:165", #[⟨22, .data⟩], none⟩) (v := ?v1376) rfl (by kernel_rfl) (by kernel_rfl) (by kernel_rfl) (fun _ _ _ h => h) (Or.inl ⟨by rfl, ?hy1376⟩) (by assumption) ?rest1376
  case hy1376 => (intro w hSw; (try dsimp only at hSw); go_simp; (try with_reducible rfl))
  (try go_frame)
  refine wpAnyH_take (i := 24) (oi := ⟨some 26, .fieldAddr 231 (.tmp 25) 1, 0, "thread.go:165", #[⟨23, .data⟩], none⟩) (v := ?v1377) rfl (by kernel_rfl) (by kernel_rfl) (by kernel_rfl) (fun _ _ _ h => h) (Or.inl ⟨by rfl, ?hy1377⟩) (by assumption) ?rest1377
  case hy1377 => (intro w hSw; (try dsimp only at hSw); go_simp; (try with_reducible rfl))
  (try go_frame)
  refine wpAnyH_take (i := 25) (oi := ⟨some 27, .load 3 (.tmp 26), 3, "thread.go:165", #[⟨24, .data⟩], none⟩) (v := ?v1378) rfl (by kernel_rfl) (by kernel_rfl) (by kernel_rfl) (fun _ _ _ h => h) (Or.inl ⟨by rfl, ?hy1378⟩) (by assumption) ?rest1378
  case hy1378 => (intro w hSw; (try dsimp only at hSw); go_simp; (try with_reducible rfl))
  (try go_frame)
  refine wpAnyH_ready (rs := [26]) (by kernel_rfl) (by simp) ?_
  refine AllReadyH.cons (o := ⟨some 28, .call ⟨.value (.func 237), #[.tmp 23, .tmp 27], #[287, 3]⟩, 3, "thread.go:165", #[⟨21, .data⟩, ⟨25, .data⟩], none⟩) (by rfl) (fun K hK => ?_) AllReadyH.nil
  go_simp
  refine (valueAt_any L.n t _ hn1 hn ht).mono ?_
  rintro e w2 ⟨rfl, hb2⟩
  rw [hk]
  go_wp2_with fail
  refine hK.out _ _ ?_ (fun hHeld => ?_)
  · exact ⟨cell_later hb2 hHeld.1, cell_later hb2 hHeld.2.1, cell_later hb2 hHeld.2.2.1, cell_later hb2 hHeld.2.2.2.1, cell_later hb2 hHeld.2.2.2.2.1, cell_later hb2 hHeld.2.2.2.2.2.1, cell_later hb2 hHeld.2.2.2.2.2.2.1, there_later hb2 hHeld.2.2.2.2.2.2.2⟩
  clear hK K
  (try go_frame)
  refine wpAnyH_take (i := 27) (oi := ⟨some 29, .indexAddr 288 (.tmp 16) (.tmp 28), 0, "thread.go:165", #[⟨14, .data⟩, ⟨26, .data⟩], none⟩) (v := ?v1379) rfl (by kernel_rfl) (by kernel_rfl) (by kernel_rfl) (fun _ _ _ h => h) (Or.inl ⟨by rfl, ?hy1379⟩) (by assumption) ?rest1379
  case hy1379 => (intro w hSw; (try dsimp only at hSw); go_simp; (try with_reducible rfl))
  (try go_frame)
  refine wpAnyH_ready (rs := [28]) (by kernel_rfl) (by simp) ?_
  refine AllReadyH.cons (o := ⟨some 30, .call ⟨.value (.func 225), #[.tmp 29], #[387]⟩, 3, "thread.go:165", #[⟨27, .data⟩, ⟨26, .chain⟩], none⟩) (by rfl) (fun K hK => ?_) AllReadyH.nil
  go_simp
  refine (wordRead (L.bW (E.th t).found) k _ _ hHeld.2.2.2.2.2.2.1).mono ?_
  rintro e w3 ⟨rfl, rfl⟩
  go_wp2_with fail
  refine hK.out _ _ ?_ (fun hHeld => ?_)
  · exact hHeld
  clear hK K
  (try go_frame)
  refine wpAnyH_take (i := 29) (oi := ⟨some 31, .nilCheck (.tmp 2), 0, "thread.go:165", #[⟨0, .data⟩, ⟨0, .phase⟩, ⟨1, .phase⟩, ⟨2, .phase⟩, ⟨3, .phase⟩, ⟨4, .phase⟩, ⟨5, .phase⟩, ⟨6, .phase⟩, ⟨7, .phase⟩, ⟨8, .phase⟩, ⟨9, .phase⟩, ⟨10, .phase⟩, ⟨11, .phase⟩, ⟨12, .phase⟩, ⟨13, .phase⟩, ⟨14, .phase⟩, ⟨15, .phase⟩, ⟨16, .phase⟩, ⟨17, .phase⟩, ⟨18, .phase⟩, ⟨19, .phase⟩, ⟨20, .phase⟩, ⟨21, .phase⟩, ⟨22, .phase⟩, ⟨23, .phase⟩, ⟨24, .phase⟩, ⟨25, .phase⟩, ⟨26, .phase⟩, ⟨27, .phase⟩, ⟨28, .phase⟩], none⟩) (v := ?v1380) rfl (by kernel_rfl) (by kernel_rfl) (by kernel_rfl) (fun _ _ _ h => h) (Or.inl ⟨by rfl, ?hy1380⟩) (by assumption) ?rest1380
  case hy1380 => (intro w hSw; (try dsimp only at hSw); go_simp; (try with_reducible rfl))
  (try go_frame)
  refine wpAnyH_take (i := 30) (oi := ⟨some 32, .fieldAddr 231 (.tmp 31) 17, 0, "thread.go:165", #[⟨29, .data⟩, ⟨0, .phase⟩, ⟨1, .phase⟩, ⟨2, .phase⟩, ⟨3, .phase⟩, ⟨4, .phase⟩, ⟨5, .phase⟩, ⟨6, .phase⟩, ⟨7, .phase⟩, ⟨8, .phase⟩, ⟨9, .phase⟩, ⟨10, .phase⟩, ⟨11, .phase⟩, ⟨12, .phase⟩, ⟨13, .phase⟩, ⟨14, .phase⟩, ⟨15, .phase⟩, ⟨16, .phase⟩, ⟨17, .phase⟩, ⟨18, .phase⟩, ⟨19, .phase⟩, ⟨20, .phase⟩, ⟨21, .phase⟩, ⟨22, .phase⟩, ⟨23, .phase⟩, ⟨24, .phase⟩, ⟨25, .phase⟩, ⟨26, .phase⟩, ⟨27, .phase⟩, ⟨28, .phase⟩], none⟩) (v := ?v1381) rfl (by kernel_rfl) (by kernel_rfl) (by kernel_rfl) (fun _ _ _ h => h) (Or.inl ⟨by rfl, ?hy1381⟩) (by assumption) ?rest1381
  case hy1381 => (intro w hSw; (try dsimp only at hSw); go_simp; (try with_reducible rfl))
  (try go_frame)
  refine wpAnyH_take (i := 31) (oi := ⟨some 33, .fieldAddr 94 (.tmp 32) 1, 0, "thread.go:165", #[⟨30, .data⟩, ⟨0, .phase⟩, ⟨1, .phase⟩, ⟨2, .phase⟩, ⟨3, .phase⟩, ⟨4, .phase⟩, ⟨5, .phase⟩, ⟨6, .phase⟩, ⟨7, .phase⟩, ⟨8, .phase⟩, ⟨9, .phase⟩, ⟨10, .phase⟩, ⟨11, .phase⟩, ⟨12, .phase⟩, ⟨13, .phase⟩, ⟨14, .phase⟩, ⟨15, .phase⟩, ⟨16, .phase⟩, ⟨17, .phase⟩, ⟨18, .phase⟩, ⟨19, .phase⟩, ⟨20, .phase⟩, ⟨21, .phase⟩, ⟨22, .phase⟩, ⟨23, .phase⟩, ⟨24, .phase⟩, ⟨25, .phase⟩, ⟨26, .phase⟩, ⟨27, .phase⟩, ⟨28, .phase⟩], none⟩) (v := ?v1382) rfl (by kernel_rfl) (by kernel_rfl) (by kernel_rfl) (fun _ _ _ h => h) (Or.inl ⟨by rfl, ?hy1382⟩) (by assumption) ?rest1382
  case hy1382 => (intro w hSw; (try dsimp only at hSw); go_simp; (try with_reducible rfl))
  (try go_frame)
  refine wpAnyH_ready (rs := [32]) (by kernel_rfl) (by simp) ?_
  refine AllReadyH.cons (o := ⟨none, .store 3 (.tmp 33) (.tmp 30), 0, "thread.go:165", #[⟨31, .data⟩, ⟨28, .data⟩, ⟨28, .chain⟩, ⟨0, .phase⟩, ⟨1, .phase⟩, ⟨2, .phase⟩, ⟨3, .phase⟩, ⟨4, .phase⟩, ⟨5, .phase⟩, ⟨6, .phase⟩, ⟨7, .phase⟩, ⟨8, .phase⟩, ⟨9, .phase⟩, ⟨10, .phase⟩, ⟨11, .phase⟩, ⟨12, .phase⟩, ⟨13, .phase⟩, ⟨14, .phase⟩, ⟨15, .phase⟩, ⟨16, .phase⟩, ⟨17, .phase⟩, ⟨18, .phase⟩, ⟨19, .phase⟩, ⟨20, .phase⟩, ⟨21, .phase⟩, ⟨22, .phase⟩, ⟨23, .phase⟩, ⟨24, .phase⟩, ⟨25, .phase⟩, ⟨26, .phase⟩, ⟨27, .phase⟩, ⟨28, .phase⟩], none⟩) (by rfl) (fun K hK => ?_) AllReadyH.nil
  rw [if_pos (by rfl)]
  refine wp_store_one _ _ _ rfl L.g (t * 28 + 26) (.int .i64 (E.rw (E.th t).found k)) rfl rfl rfl rfl hHeld.2.2.2.2.2.2.2 (by kernel_rfl) ?_
  refine hK.out _ _ ?_ (fun hHeld => ?_)
  · exact ⟨cell_kept hHeld.1 (by first | exact .inr (by dsimp only; omega) | exact .inl (by assumption) | exact .inl (Ne.symm (by assumption))), cell_kept hHeld.2.1 (by first | exact .inr (by dsimp only; omega) | exact .inl (by assumption) | exact .inl (Ne.symm (by assumption))), cell_kept hHeld.2.2.1 (by first | exact .inr (by dsimp only; omega) | exact .inl (by assumption) | exact .inl (Ne.symm (by assumption))), cell_kept hHeld.2.2.2.1 (by first | exact .inr (by dsimp only; omega) | exact .inl (by assumption) | exact .inl (Ne.symm (by assumption))), cell_kept hHeld.2.2.2.2.1 (by first | exact .inr (by dsimp only; omega) | exact .inl (by assumption) | exact .inl (Ne.symm (by assumption))), cell_kept hHeld.2.2.2.2.2.1 (by first | exact .inr (by dsimp only; omega) | exact .inl (by assumption) | exact .inl (Ne.symm (by assumption))), cell_kept hHeld.2.2.2.2.2.2.1 (by first | exact .inr (by dsimp only; omega) | exact .inl (by assumption) | exact .inl (Ne.symm (by assumption))), there_set hHeld.2.2.2.2.2.2.2 _ rfl _⟩
  clear hK K
  (try go_frame)
  refine wpAnyH_done (by kernel_rfl) ?_ _
  have hb3 := Below.undrew hb2
  have r3 := HH.out.below hb3
  obtain ⟨h1, k1⟩ := r3.cell1 ht 26 (by decide) (.int .i64 (E.rw (E.th t).found k)) { E.th t with val := E.rw (E.th t).found k } rfl rfl rfl rfl rfl (by intros; rfl)
  have HL := hide (Left.below HH.out hb3)
  obtain ⟨cv5, cf5, pv5, hc5, hcv5, hcf5, -, hf5⟩ := h1.cells ht (upd_same _ _ _)
  obtain ⟨x0, x1, rfl⟩ := list_cells hcv5.1
  obtain ⟨y0, y1, rfl⟩ := list_cells hcf5.1
  have c27 := hc5 27 _ (by decide) rfl
  have f27 := hf5 (t * 28 + 27)
  obtain ⟨h6, k6⟩ := h1.cell1 ht 27 (by decide) (.bool true) { E.th t with val := E.rw (E.th t).found k, ended := true } (by simp [upd_same]) (by simp [upd_same]) (by simp [upd_same]) (by simp [upd_same]) (by simp [upd_same]) (by intros; simp only [upd_same]; rfl)
  have H6 := hide h6
  have K6 := hide k6
  clear hc5 hcv5 hcf5 hf5 h6 k6
  have H1 := hide h1
  have K1 := hide k1
  clear h1 k1 r3 hHeld hb2 hb3
  go_wp2_with fail
  refine (enter_w H6.out ht 0).mono ?_
  rintro e w4 ⟨rfl, r4, k4⟩
  have HR := hide (And.intro r4 k4)
  clear r4 k4
  go_wp2
  refine bodyPost_end (v := .tuple #[]) (by simp [results, Tryz.results216, go_sem]) rfl ⟨rfl, HL.out.next (Left.of (HR.out.1.cast ?_) ((K1.out.trans K6.out).trans HR.out.2) rfl)⟩
  simp only [upd_upd, upd_same]
end
end Go.Proofs.YtefjhnhdagolhaaGreat.int
