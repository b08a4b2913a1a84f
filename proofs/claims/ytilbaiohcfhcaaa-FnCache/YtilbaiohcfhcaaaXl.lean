/- impl.shelfOf of a cache whose floors are right: contract. -/
import Derived.Test.YtilbaiohcfhcaaaXk
import Derived.BigRegionIn
namespace Go.Proofs.Ytilbaiohcfhcaaa
open Go.RowKit Go.Shelf
attribute [local go_sem ↓] Go.wp_at_zero Go.wp_at_succ
attribute [local go_sem ↓] ldQ_open stQ_open ldH_open ldF_open stH_open zeroH bdH_open binQ_open
attribute [local go_sem] Oper.semAt_some

theorem arr24 (a : Addr) (c : Nat) (w : World) : (Instr.arrayAt 57 (.slice (some a) 24 c)).run Try.prog w = .ok (.pointer (some a)) w := by
  simp [Instr.arrayAt, run_underlying Try.shp_flo]
attribute [local go_sem ↓] arr24
theorem fold_N (f : Nat → Int) : List.foldl (fun (cs : Array Value) (x : Value × Nat) => cs.setIfInBounds (84 + x.snd) x.fst) (cellsH emptyX zeroF).toArray (floN f).zipIdx = (spotsC emptyX ++ floN f).toArray := by kernel_rfl
theorem fold_F {F : List KD} (h : F.length = 24) : List.foldl (fun (cs : Array Value) (x : Value × Nat) => cs.setIfInBounds (84 + x.snd) x.fst) (cellsH emptyX zeroF).toArray (floC F).zipIdx = (cellsH emptyX F).toArray := by
  rw [show cellsH emptyX F = spotsC emptyX ++ floC F from rfl, floC_N h]
  exact fold_N _
theorem stQ_k {W : World} {g : Nat} {X : List (Option KD)} {F : List KD} (h : ShAt W g fr0 X F) (i : Nat) (hi : i < 4) (k v n : Int) (l : List (Int × Int)) :
    ∃ W', (stQ (.pointer (some ⟨g, i * 21, none⟩)) (.agg (spotC true k v n l).toArray)).run Try.prog W = .ok () W' ∧ ShAt W' g fr0 (splice X i [some ([k, v, n], l)]) F ∧ Only (fun k => k = g) W W' := by
  have := stQ_at h i hi (some ([k, v, n], l))
  rw [show (fr0 : Fr).pre.length + 21 * i = i * 21 from by simp; omega] at this
  exact this
theorem Rd.belowX {m X : Nat} {w w' : World} {u : Value} {l : List (Int × Int)} (h : Rd w u l) (ho : BelowX m X w w') (hn : 0 < l.length → ∀ b, u.ownBlock = some b → b < m ∧ ¬ b = X) : Rd w' u l := by
  obtain ⟨ao, cap, rfl, hl, hc⟩ := h
  refine ⟨ao, cap, rfl, hl, fun h0 => ?_⟩
  obtain ⟨b, off, rfl, hb, hcc⟩ := hc h0
  have hg := ho.2 b (hn h0 b rfl).1 (hn h0 b rfl).2
  refine ⟨b, off, rfl, Nat.lt_of_lt_of_le hb ho.1, fun i hi => ?_⟩
  obtain ⟨c0, c1⟩ := hcc i hi
  exact ⟨(World.cell?_of_block (a := ⟨b, off + i * 2, none⟩) hg).trans c0, (World.cell?_of_block (a := ⟨b, off + i * 2 + 1, none⟩) hg).trans c1⟩
theorem Rd.own_lt {w : World} {u : Value} {l : List (Int × Int)} (h : Rd w u l) (h0 : 0 < l.length) : ∀ b, u.ownBlock = some b → b < w.heap.size := by
  obtain ⟨ao, cap, rfl, hl, hc⟩ := h
  obtain ⟨b, off, rfl, hb, _⟩ := hc h0
  intro b' hb'
  simp only [Value.ownBlock, Option.some.injEq] at hb'
  omega
theorem keeps_only {W W2 : World} {G B : Nat} (o : Only (fun k => k = G) W W2) (hg : G < B) : KeepsFrom B W W2 :=
  ⟨o.size, fun k _ hk ho _ => (o.block k (Array.getElem?_eq_some_iff.1 ho).1 (by omega)).trans ho⟩
theorem belowX_only {W W2 : World} {m X : Nat} (o : Only (fun k => k = X) W W2) (hm : m ≤ W.heap.size) : BelowX m X W W2 := ⟨o.size, fun k hk hn => o.block k (by omega) hn⟩
abbrev itemV (I : List KD) (us : Nat → Value) (x : Fin I.length) : Value := .agg #[.int .i64 (keyK I[x.val]), .int .i64 (verK I[x.val]), .int .i64 (numK I[x.val]), us x.val]
set_option maxRecDepth 100000 in
set_option maxHeartbeats 4000000 in
theorem shelfOf_yes (v0 v1 : Value) (I F : List KD) (w : World) (h0 : RdM 4 3 true w v0 I) (h1 : RdM 1 1 false w v1 F) (hI : I.length ≤ 4) (hv : vsR F = true) :
    Calls Try.prog 19 #[.agg #[v0, v1]] w fun e w' => EndS I F e ∧ Below w.heap.size w w' := by
  have hF24 : F.length = 24 := (of_decide_eq_true hv).1
  have H1 := hid h1
  obtain ⟨ai, ci, rfl, hli, hci⟩ := h0
  obtain ⟨af, cf, rfl, hlf, hcf⟩ := h1
  obtain ⟨bf, of', rfl, hbf, hccf⟩ := hcf (by omega)
  have HRF : Hid (w.rangeAt bf of' (floC F)) := hid (rdF_row hccf)
  obtain ⟨us, hus⟩ : ∃ us : Nat → Value, 0 < I.length → ∃ b o, ai = some ⟨b, o, none⟩ ∧ ItemsAt w I.length b o I us := by
    by_cases h0 : 0 < I.length
    · obtain ⟨b, o, rfl, hb, hcc⟩ := hci h0
      obtain ⟨us, hu⟩ := itemsAt_of hb hcc
      exact ⟨us, fun _ => ⟨b, o, rfl, hu⟩⟩
    · exact ⟨fun _ => default, fun h => absurd h h0⟩
  have HL3 : Hid (∀ x ∈ I, x.1.length = 3) := hid (fun x hx => by
    obtain ⟨i, hi, rfl⟩ := List.getElem_of_mem hx
    obtain ⟨_, _, _, hit⟩ := hus (by omega)
    have := hit.l3 i hi
    rwa [getD_at hi] at this)
  have HFL : Hid (FlrTo F 24) := hid (of_decide_eq_true hv).2
  have HIT := hid hus
  clear hci hcf hccf hus hli hlf
  have hfl := fun (W : World) (hr : RdM 1 1 false W (.slice (some ⟨bf, of', none⟩) F.length cf) F) => floorsRight_any _ F W hr
  rw [hv] at hfl
  have H24 := hid hF24
  rw [hF24] at hfl
  have H1' : Hid (RdM 1 1 false w (.slice (some ⟨bf, of', none⟩) 24 cf) F) := by rw [hF24] at H1; exact H1
  rw [hF24]
  clear H1 hF24 hv
  have hg : decide ((I.length : Int) > 4) = false := by simp; omega
  have g2 : ((w.alloc (.cells #[.slice ai I.length ci, .slice (some ⟨bf, of', none⟩) 24 cf] 26)).alloc (.cells (cellsH emptyX zeroF).toArray 59)).heap[w.heap.size + 1]? = some (.cells (cellsH emptyX zeroF).toArray 59 (0, 0)) := by
    have := heap_alloc_new (w.alloc (.cells #[.slice ai I.length ci, .slice (some ⟨bf, of', none⟩) 24 cf] 26)) (.cells (cellsH emptyX zeroF).toArray 59)
    have e : (w.alloc (.cells #[.slice ai I.length ci, .slice (some ⟨bf, of', none⟩) 24 cf] 26)).heap.size = w.heap.size + 1 := by simp
    rw [e] at this
    exact this
  have HS1 := hid (shAt_of emptyX_length zeroF_length g2)
  have a0_1 : ((w.alloc (.cells #[.slice ai I.length ci, .slice (some ⟨bf, of', none⟩) 24 cf] 26)).alloc (.cells (cellsH emptyX zeroF).toArray 59)).cell? ⟨w.heap.size, 0, none⟩ = some (.slice ai I.length ci) := by go_cell
  have a1_1 : ((w.alloc (.cells #[.slice ai I.length ci, .slice (some ⟨bf, of', none⟩) 24 cf] 26)).alloc (.cells (cellsH emptyX zeroF).toArray 59)).cell? ⟨w.heap.size, 1, none⟩ = some (.slice (some ⟨bf, of', none⟩) 24 cf) := by go_cell
  have c1 : Below w.heap.size w ((w.alloc (.cells #[.slice ai I.length ci, .slice (some ⟨bf, of', none⟩) 24 cf] 26)).alloc (.cells (cellsH emptyX zeroF).toArray 59)) := by go_grown
  have s1 : ((w.alloc (.cells #[.slice ai I.length ci, .slice (some ⟨bf, of', none⟩) 24 cf] 26)).alloc (.cells (cellsH emptyX zeroF).toArray 59)).heap.size = w.heap.size + 2 := by simp
  clear g2
  refine (callsIn_wide (n := 3)).1 ?_
  refine callsIn_of_wp_marks Try.func19 rfl trivial ?_ rfl
  simp only [Try.ntmps19, List.size_toArray, List.length_cons, List.length_nil, Nat.reduceAdd, Nat.reduceSub, Array.replicate_succ, Array.replicate_zero, List.push_toArray, List.append_toArray, List.nil_append, List.cons_append]
  gi_wp2_with fail
  refine ⟨trivial, (callsIn_wide.2 (hfl _ (H1'.out.later c1))).mono ?_⟩
  rintro e w2 ⟨rfl, b2⟩
  generalize ((w.alloc (.cells #[.slice ai I.length ci, .slice (some ⟨bf, of', none⟩) 24 cf] 26)).alloc (.cells (cellsH emptyX zeroF).toArray 59)) = w1 at HS1 a0_1 a1_1 c1 s1 b2 ⊢
  have HS2 := hid (HS1.out.later b2)
  have a0_2 := (b2.cell (p := ⟨w.heap.size, 0, none⟩) (by show w.heap.size < _; omega)).trans a0_1
  have a1_2 := (b2.cell (p := ⟨w.heap.size, 1, none⟩) (by show w.heap.size < _; omega)).trans a1_1
  have c2 := c1.trans (b2.mono c1.size)
  have l2 : w.heap.size + 1 < w2.heap.size := by have := b2.size; omega
  have RF2 : w2.rangeAt bf of' (floC F) := fun j v hj => (c2.cell (p := ⟨bf, of' + j, none⟩) hbf).trans (HRF.out j v hj)
  have hld := ldF_row H24.out RF2
  have hbd := fold_F H24.out
  have hflen : (floC F).length = 24 := by rw [floC_length]; exact H24.out
  -- the shelf
  obtain ⟨w3, hst3, h3, o3, s3⟩ := stH_at (shAt_of emptyX_length zeroF_length (heap_alloc_new w2 (.cells (cellsH emptyX zeroF).toArray 59))) emptyX_length H24.out
  have O3 : Hid (Only (fun j => j = w2.heap.size) w2 w3) := hid ((Only.later (by go_grown)).trans o3)
  have S3 : Hid (w3.heap.size = w2.heap.size + 1) := hid (by rw [s3]; simp)
  have HA3 := hid h3
  have hld3 := ldH_at h3
  obtain ⟨w4, hst4, h4, o4, s4⟩ := stH_at (shAt_of emptyX_length zeroF_length (heap_alloc_new w3 (.cells (cellsH emptyX zeroF).toArray 59))) emptyX_length H24.out
  have O4 : Hid (Only (fun j => j = w3.heap.size) w3 w4) := hid ((Only.later (by go_grown)).trans o4)
  have S4 : Hid (w4.heap.size = w3.heap.size + 1) := hid (by rw [s4]; simp)
  have HN4 := hid h4
  clear h3 o3 s3 h4 o4 s4 hfl RF2 b2 HS1 a0_1 a1_1 c1
  have a0_4 : w4.cell? ⟨w.heap.size, 0, none⟩ = some (.slice ai I.length ci) := ((World.cell?_of_block (a := ⟨w.heap.size, 0, none⟩) (O4.out.block _ (by have := S3.out; show w.heap.size < _; omega) (by have := S3.out; show ¬ w.heap.size = _; omega))).trans (World.cell?_of_block (a := ⟨w.heap.size, 0, none⟩) (O3.out.block _ (by have := S3.out; show w.heap.size < _; omega) (by have := S3.out; show ¬ w.heap.size = _; omega)))).trans a0_2
  have C4 : Hid (Below w.heap.size w w4) := hid (c2.trans (((O3.out.below (fun k hk => by omega) (Nat.le_refl _)).trans ((O4.out.below (B := w2.heap.size) (fun k hk => by have := S3.out; omega) (by have := S3.out; omega)))).mono c2.size))
  have R4 : Hid (ShAt w4 (w.heap.size + 1) fr0 emptyX zeroF) := hid ((HS2.out.only O3.out (by omega)).only O4.out (by have := S3.out; omega))
  have HA4 : Hid (ShAt w4 w2.heap.size fr0 emptyX F) := hid (HA3.out.only O4.out (by have := S3.out; omega))
  gi_wp2_with fail
  clear hflen hst3 hst4 hld hbd hld3 a0_2 a1_2 HS2 O3 O4 HA3 HRF H1' hg
  gi_loopw [30] (fun i wr => ∃ k : Nat, k ≤ I.length ∧ i = .int .i64 k ∧ Hid (ShAt wr w2.heap.size fr0 (itemsX (I.take k)) F) ∧ Hid (Only (fun j => j = w2.heap.size) w4 wr)) (fun i _ => I.length - (intOf i).toNat)
  case atStart => exact ⟨0, Nat.zero_le _, rfl, HA4, hid (Only.refl _ _)⟩
  case round =>
    obtain ⟨k, hk, rfl, hsh, hon⟩ := hrel
    have hbelw : Below w.heap.size w wr := C4.out.trans (hon.out.below (fun j hj => by omega) C4.out.size)
    have hszr := hon.out.size
    by_cases hlt : k < I.length
    · obtain ⟨b, o, rfl, hit0⟩ := HIT.out (by omega)
      have hit := hit0.later hbelw
      have k0 := hit.c0 k hlt
      have k1 := hit.c1 k hlt
      have k2 := hit.c2 k hlt
      have k3 := hit.c3 k hlt
      have HU := hid (hit.rd k hlt)
      have HX : Hid (([keyK (I.getD k kd0), verK (I.getD k kd0), numK (I.getD k kd0)], (I.getD k kd0).2) = I.getD k kd0) := hid (kd3 (hit.l3 k hlt))
      have HSET := hid (itemsX_set hlt hI)
      have hk4 : k < 4 := by omega
      have hki : (k : Int) < 4 := by omega
      clear hit hit0 HIT
      generalize I.getD k kd0 = x at *
      generalize keyK x = p0 at *
      generalize verK x = p1 at *
      generalize numK x = p2 at *
      generalize us k = u at *
      obtain ⟨uo, uc, hue, _⟩ := HU.out
      subst hue
      gi_wp2_with fail
      have bq : Below wr.heap.size wr (wr.alloc (.cells #[.int .i64 p0, .int .i64 p1, .int .i64 p2, .slice uo x.2.length uc] 31)) := by go_grown
      refine ⟨trivial, (callsIn_wide.2 (spotOf_any _ _ _ _ x.2 _ (HU.out.later bq))).mono ?_⟩
      rintro e w5 ⟨rfl, b5⟩
      have b6 := bq.trans (b5.mono bq.size)
      obtain ⟨w6, hst6, h6, o6⟩ := stQ_k (hsh.out.later b6) k hk4 p0 p1 p2 x.2
      rw [HX.out, HSET.out] at h6
      have H6 := hid h6
      have ON6 : Hid (Only (fun j => j = w2.heap.size) w4 w6) := hid ((hon.out.trans (Only.later b6)).trans o6)
      clear b5 b6 bq h6 o6
      gi_wp2_with fail
      go_roundw
      case rel => exact ⟨k + 1, by omega, by go_num, H6, ON6⟩
      case measure => simp [intOf]; omega
    · have hkn : k = I.length := by omega
      subst hkn
      rw [List.take_length] at hsh
      have a0_5 : wr.cell? ⟨w.heap.size, 0, none⟩ = some (.slice ai I.length ci) := (World.cell?_of_block (a := ⟨w.heap.size, 0, none⟩) (hon.out.block _ (by show w.heap.size < _; have := C4.out.size; have := (World.block_lt_of_cell? _ _ a0_4); simpa using this) (by show ¬ w.heap.size = _; omega))).trans a0_4
      gi_wp2_with fail
      refine ⟨trivial, (callsIn_wide.2 (backward_any ai I.length ci _)).mono ?_⟩
      rintro e w7 ⟨rfl, hw7⟩
      have b7 : Below wr.heap.size wr w7 := by rw [hw7]; go_grown
      have z7 : w7.cell? ⟨wr.heap.size, 0, none⟩ = some (.slice ai I.length ci) := by rw [hw7]; go_cell
      have l7 : wr.heap.size < w7.heap.size := by rw [hw7]; simp
      clear hw7
      have hnr : w3.heap.size < wr.heap.size := by have := S3.out; have := S4.out; omega
      have HA7 := hid (hsh.out.later b7)
      have HN7 : Hid (ShAt w7 w3.heap.size fr0 emptyX F) := hid ((HN4.out.only hon.out (by have := S3.out; omega)).later b7)
      have HR7 : Hid (ShAt w7 (w.heap.size + 1) fr0 emptyX zeroF) := hid ((R4.out.only hon.out (by omega)).later b7)
      have C7 : Hid (Below w.heap.size w w7) := hid (hbelw.trans (b7.mono hbelw.size))
      have HI7 : Hid (0 < I.length → ∃ b o, ai = some ⟨b, o, none⟩ ∧ b ≠ w3.heap.size ∧ ItemsAt w7 I.length b o I us) := hid (fun h0 => by
        obtain ⟨b, o, rfl, hit⟩ := HIT.out h0
        exact ⟨b, o, rfl, by have := hit.lt; have := S3.out; omega, hit.later C7.out⟩)
      have hrw : w.heap.size ≤ wr.heap.size := hbelw.size
      clear b7 a0_5 hsh hon hbelw HN4 R4 HA4 C4 a0_4
      gi_wp2
      refine wpIn_rangeFunc_ownH rfl (by omega) (gf := 56) (lb := #[.pointer (some ⟨wr.heap.size, 0, none⟩)]) rfl trivial (enters_of Try.func56 (by kernel_rfl) rfl)
        (back_stops 2 (by omega) wr.heap.size ai ci I us w3.heap.size w7 hI HI7.out (by omega) z7) BelowX.trans (belowX_b (Nat.le_refl _)) (Below.refl _ _) (fun _ => rfl)
        (fun pre W => ShAt W w3.heap.size fr0 (runS F I pre).1 (runS F I pre).2 ∧ BelowX w7.heap.size w3.heap.size w7 W ∧ Below w.heap.size w W)
        (fun _ _ _ => False)
        (fun pre A B row hs hg hr => ⟨hs.1.agree (hg.block _ hs.1.lt (fun e => by have := (hr _ e.symm).1; omega)),
          ⟨Nat.le_trans hs.2.1.1 hg.size, fun k hk hne => (hg.block k (Nat.lt_of_lt_of_le hk hs.2.1.1) (fun e => by have := (hr k e.symm).1; omega)).trans (hs.2.1.2 k hk hne)⟩,
          ownFrom_below (β := Unit) (Nat.le_refl _) (by omega) () A B row hs.2.2 hg hr⟩)
        (fun _ _ _ _ _ hs _ _ => hs)
        ⟨HN7.out, BelowX.refl _ _ _, C7.out⟩
        (fun x a' W => ∃ Bx, w3.heap.size < Bx ∧ W.heap[Bx]? = some (.cells #[.int .i64 (keyK I[x.val]), .int .i64 (verK I[x.val]), .int .i64 (numK I[x.val]), us x.val] 31 (0, 0)) ∧ a' = { tmps := #[.agg #[.slice ai I.length ci, .slice (some ⟨bf, of', none⟩) 24 cf], .pointer (some ⟨w.heap.size, 0, none⟩), .pointer (some ⟨w.heap.size + 1, 0, none⟩), .bool false, .pointer (some ⟨w2.heap.size, 0, none⟩), .pointer (some ⟨w3.heap.size, 0, none⟩), u6, u7, undef, .pointer (some ⟨Bx, 0, none⟩), .pointer (some ⟨w.heap.size, 0, none⟩), .slice ai I.length ci, .int .i64 I.length, .bool false, .bool false, .pointer (some ⟨w.heap.size, 1, none⟩), .slice (some ⟨bf, of', none⟩) 24 cf, .bool true, .bool false, .bool false, undef, .pointer (some ⟨w.heap.size, 1, none⟩), .slice (some ⟨bf, of', none⟩) 24 cf, .pointer (some ⟨bf, of', none⟩), .agg (floC F).toArray, .agg (cellsH emptyX F).toArray, .agg (cellsH emptyX F).toArray, .pointer (some ⟨w.heap.size, 0, none⟩), .slice ai I.length ci, .int .i64 I.length, .int .i64 I.length, .bool false, u32, u33, u34, u35, u36, u37, u38, u39, u40, .pointer (some ⟨w.heap.size, 0, none⟩), .slice ai I.length ci, .func (.func 56) #[] #[.pointer (some ⟨wr.heap.size, 0, none⟩)], .int .i64 ((x.val : Nat) : Int), itemV I us x, undef, undef, undef, undef, undef, undef], defers := [] })
        (fun x a' _ X Y row hs hg hr => by
          obtain ⟨Bx, h1, h2, h3⟩ := hs
          refine ⟨Bx, h1, (hg.block Bx (Array.getElem?_eq_some_iff.1 h2).1 (fun e => ?_)).trans h2, h3⟩
          obtain ⟨_, o, ho, hc⟩ := hr Bx e.symm
          rw [h2] at ho
          cases ho
          cases hc)
        ?assign ?body ?done ?stop
      case assign =>
        rintro l2 pre x W K ⟨hN, hX, hB⟩ hK
        obtain ⟨b, o, rfl, hbX, hit⟩ := HI7.out (by have := x.isLt; omega)
        obtain ⟨uo, uc, hue, _⟩ := hit.rd x.val x.isLt
        rw [getD_at x.isLt] at hue
        gi_wp2
        have bW : Below W.heap.size W (W.alloc (.cells #[.int .i64 (keyK I[x.val]), .int .i64 (verK I[x.val]), .int .i64 (numK I[x.val]), .slice uo I[x.val].2.length uc] 31)) := (Below.refl _ W).alloc (Nat.le_refl _) _
        exact hK _ _ ((KeepsOthers.alloc _ _).from _) (.of (bW.mono hX.1)) ⟨hN.later bW, hX.trans (.of (bW.mono hX.1)), hB.trans (bW.mono hB.size)⟩ ⟨W.heap.size, hN.lt, by rw [hue]; exact heap_alloc_new W _, by simp only [itemV, hue]⟩
      case body =>
        rintro l2 pre x a' W hl2 ⟨r, hr⟩ ⟨hN, hX, hB⟩ ⟨Bx, hBx, hP, rfl⟩ hlt
        obtain ⟨b, o, rfl, hbX, hit⟩ := HI7.out (by have := x.isLt; omega)
        have hru := hit.rd x.val x.isLt
        rw [getD_at x.isLt] at hru
        have hub : 0 < I[x.val].2.length → ∀ b, (us x.val).ownBlock = some b → b < w7.heap.size ∧ ¬ b = w3.heap.size := fun h0 b hb => ⟨hru.own_lt h0 b hb, by
          obtain ⟨b0, o0, hh, hit0⟩ := HIT.out (by have := x.isLt; omega)
          have h1 := hit0.rd x.val x.isLt
          rw [getD_at x.isLt] at h1
          have := h1.own_lt h0 b hb
          have := S3.out
          omega⟩
        have HU := hid (hru.belowX hX hub)
        have HUB : Hid (0 < I[x.val].2.length → ∀ b, (us x.val).ownBlock = some b → ¬ b = w3.heap.size) := hid (fun h0 b hb => (hub h0 b hb).2)
        have HN := hid hN
        have HX := hid hX
        have HB := hid hB
        have h3 := hit.l3 x.val x.isLt
        rw [getD_at x.isLt] at h3
        have H3 := hid (kd3 h3)
        have q0 : W.cell? ⟨Bx, 0, none⟩ = some (.int .i64 (keyK I[x.val])) := by simp [World.cell?, hP]
        have q1 : W.cell? ⟨Bx, 1, none⟩ = some (.int .i64 (verK I[x.val])) := by simp [World.cell?, hP]
        have q2 : W.cell? ⟨Bx, 2, none⟩ = some (.int .i64 (numK I[x.val])) := by simp [World.cell?, hP]
        have q3 : W.cell? ⟨Bx, 3, none⟩ = some (us x.val) := by simp [World.cell?, hP]
        have hn7 := hN.lt
        have hlt7 : w3.heap.size < w7.heap.size := by omega
        clear hP hN hX hB hru hub hit h3
        by_cases hp : putB (runS F I pre).2 (keyK I[x.val]) (verK I[x.val]) (numK I[x.val]) I[x.val].2 = true
        · have HP := hid hp
          clear hp
          gi_wp2_with fail
          refine ⟨trivial, (callsIn_wide.2 (putX_any w3.heap.size fr0 _ _ _ _ _ _ _ _ HN.out HU.out HUB.out HP.out)).mono ?_⟩
          rintro e W2 ⟨rfl, h2, o2⟩
          have HO2 := hid o2
          have H2 := hid h2
          clear o2 h2
          gi_wp2
          exact ⟨keeps_only HO2.out hlt7, belowX_only HO2.out HX.out.1, by rw [runS_more, stepS, if_pos HP.out]; exact H2.out, HX.out.trans (belowX_only HO2.out HX.out.1), HB.out.trans (HO2.out.below (fun k hk => by have := S3.out; omega) HB.out.size)⟩
        · have HP : Hid (putB (runS F I pre).2 (keyK I[x.val]) (verK I[x.val]) (numK I[x.val]) I[x.val].2 = false) := hid (by simpa using hp)
          clear hp
          gi_wp2_with fail
          refine ⟨trivial, (callsIn_wide.2 (putX_no w3.heap.size fr0 _ _ _ _ _ _ _ _ HN.out HU.out HP.out)).mono ?_⟩
          rintro e W2 ⟨rfl, b2⟩
          have HB2 := hid b2
          clear b2
          gi_wp2
          have hnp : ¬ (putB (runS F I pre).2 (keyK I[x.val]) (verK I[x.val]) (numK I[x.val]) I[x.val].2 = true) := by rw [HP.out]; simp
          exact ⟨keeps_only (G := w3.heap.size) (Only.later HB2.out) hlt7, .of (HB2.out.mono HX.out.1), by rw [runS_more, stepS, if_neg hnp]; exact HN.out.later HB2.out, HX.out.trans (.of (HB2.out.mono HX.out.1)), HB.out.trans (HB2.out.mono HB.out.size)⟩
      case done =>
        rintro D ys W hD rfl ⟨hN, hX, hB⟩ hK
        rw [runS_all] at hN
        have hsz3 := S3.out
        have hA : ShAt W w2.heap.size fr0 (itemsX I) F := HA7.out.agree (hX.2 _ (by omega) (by omega))
        have hR : ShAt W (w.heap.size + 1) fr0 emptyX zeroF := HR7.out.agree (hX.2 _ (by omega) (by omega))
        obtain ⟨q, hq, hiff⟩ := binQ_run (itemsX_length I) hN.x4 H24.out hN.f24
        have hq' : ∀ W, (binQ (.agg (cellsH (itemsX I) F).toArray) (.agg (cellsH (anewS F I).1 (anewS F I).2).toArray)).run Try.prog W = .ok (.bool q) W := hq
        have hok : q = okC I F := by
          rw [Bool.eq_iff_iff, hiff, okC_iff]
          have := anew_same H24.out hI HL3.out
          rw [this]
          exact ⟨fun h => ⟨H24.out, hI, HFL.out, h⟩, fun h => h.2.2.2⟩
        have HOK := hid hok
        have hldA := ldH_at hA.drew
        have hldN := ldH_at hN.drew
        obtain ⟨W2, hst, h2, o2, s2⟩ := stH_at hR.drew (itemsX_length I) H24.out
        have hldA2 := ldH_at (hA.drew.only o2 (by omega))
        have hldN2 := ldH_at (hN.drew.only o2 (by omega))
        have H2 := hid h2
        have HB2 : Hid (Below w.heap.size w W2) := hid (hB.trans (((Below.refl _ W).drew).trans (o2.below (fun k hk => by omega) hB.size)))
        have hK2 : W2.heap[D]? = some (.deferred (some [])) := (o2.block D (Array.getElem?_eq_some_iff.1 hK).1 (by omega)).trans hK
        have hWD : w7.heap.size ≤ D := hD
        clear hq hA hR hN hiff hok h2 o2 s2 hX hB hsz3
        gi_wp2
        gi_region
        all_goals
          gi_wp2
          have hH : ShAt (W2.putObj D (.deferred none)) (w.heap.size + 1) fr0 (itemsX I) F := H2.out.agree (World.putObj_heap_other (by have := S3.out; omega))
          refine ⟨by simp, .inl ⟨_, _, rfl, run_takeDeferred hK2, ?_⟩⟩
          exact ⟨_, shelf_results hH _ rfl, ⟨itemsX I, F, itemsX_length I, H24.out, by rw [← HOK.out]; rfl, fun _ => ⟨rfl, rfl⟩⟩, HB2.out.trans (belowK_b (w := w) (Nat.le_refl _) W2 D _ _ (by have := S3.out; omega) hK2 rfl rfl)⟩
      case stop =>
        rintro D c pre W _ _ h _
        exact h.elim
theorem shelfOf_any (v0 v1 : Value) (I F : List KD) (w : World) (h0 : RdM 4 3 true w v0 I) (h1 : RdM 1 1 false w v1 F) :
    Calls Try.prog 19 #[.agg #[v0, v1]] w fun e w' => EndS I F e ∧ Below w.heap.size w w' := by
  by_cases h : I.length ≤ 4 ∧ vsR F = true
  · exact shelfOf_yes v0 v1 I F w h0 h1 h.1 h.2
  · exact shelfOf_no v0 v1 I F w h0 h1 h
set_option maxRecDepth 100000 in
set_option maxHeartbeats 2000000 in
theorem implCOk_any (v0 v1 : Value) (I F : List KD) (w : World) (h0 : RdM 4 3 true w v0 I) (h1 : RdM 1 1 false w v1 F) :
    Calls Try.prog 8 #[.agg #[v0, v1]] w fun e w' => e = .returned (.bool (okC I F)) ∧ Below w.heap.size w w' := by
  have H0 := hid h0
  have H1 := hid h1
  obtain ⟨ai, ci, rfl, hq0, hq1⟩ := h0
  obtain ⟨af, cf, rfl, hq2, hq3⟩ := h1
  clear hq0 hq1 hq2 hq3
  have c1 : Below w.heap.size w (w.alloc (.cells #[.slice ai I.length ci, .slice af F.length cf] 26)) := by go_grown
  go_enter Try.func8, Try.ntmps8
  go_wp2_with fail
  refine (shelfOf_any _ _ I F _ (H0.out.later c1) (H1.out.later c1)).mono ?_
  rintro e w2 ⟨⟨X, G, hx, hg, rfl, hc⟩, b2⟩
  have c2 := c1.trans (b2.mono c1.size)
  obtain ⟨w3, hst, h3, o3, s3⟩ := stH_at (shAt_of emptyX_length zeroF_length (heap_alloc_new w2 (.cells (cellsH emptyX zeroF).toArray 59))) hx hg
  have C3 : Hid (Below w.heap.size w w3) := hid ((c2.alloc c2.size (.cells (cellsH emptyX zeroF).toArray 59)).trans (o3.below (fun k hk => by have := c2.size; omega) (by have := c2.size; simp; omega)))
  clear h3 o3 s3 hc c2 b2 c1

  go_wp2_with fail
  go_ret
  exact ⟨by simp, C3.out⟩
end Go.Proofs.Ytilbaiohcfhcaaa
