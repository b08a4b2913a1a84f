/- impl.shelfOf: contract. -/
import Derived.Test.YtilbaiohcfhcaaaGrD
import Derived.Test.YtilbaiohcfhcaaaCd
import Derived.Laws.ResultCell
namespace Go.Proofs.Ytilbaiohcfhcaaa
open Go.RowKit Go.Shelf
attribute [local go_sem ↓] Go.wp_at_zero Go.wp_at_succ
attribute [local go_sem ↓] ldQ_open stQ_open ldH_open ldF_open stH_open zeroH bdH_open binQ_open

/-- What shelfOf answers: a shelf, and whether the cache is ok; then the shelf is its items on its floors. -/
def EndS (I F : List KD) (e : Ending) : Prop := ∃ X G, X.length = 4 ∧ G.length = 24 ∧ e = .returned (.tuple #[.agg (cellsH X G).toArray, .bool (okC I F)]) ∧ (okC I F = true → X = itemsX I ∧ G = F)
theorem shelf_results {w : World} {g : Nat} {X : List (Option KD)} {F : List KD} (h : ShAt w g fr0 X F) (tmps : Array Value) (hp : tmps.getD 2 undef = .pointer (some ⟨g, 0, none⟩)) :
    (results Try.f19 tmps).run Try.prog w = .ok (.tuple #[.agg (cellsH X F).toArray, tmps.getD 3 undef]) w := by
  rw [results_cell_tmp (p := 2) (u := 3) (ty := 59) Try.results19]
  have hl : (loadVar 59 ⟨g, 0, none⟩).run Try.prog w = .ok (.agg (cellsH X F).toArray) w := run_loadVar_mid w g 0 59 _ _ (rangeAt_whole h.whole) Try.underlying59 rfl (by rw [Try.infoX_shelf, cellsH_length h.x4 h.f24])
  rw [hp]
  simp [asAddr, hl, Result.andThen]
set_option maxRecDepth 100000 in
set_option maxHeartbeats 4000000 in
theorem shelfOf_no (v0 v1 : Value) (I F : List KD) (w : World) (h0 : RdM 4 3 true w v0 I) (h1 : RdM 1 1 false w v1 F) (hn : ¬ (I.length ≤ 4 ∧ vsR F = true)) :
    Calls Try.prog 19 #[.agg #[v0, v1]] w fun e w' => EndS I F e ∧ Below w.heap.size w w' := by
  have HO : Hid (okC I F = false) := hid (okC_no (fun q => hn ⟨q.2.1, decide_eq_true ⟨q.1, q.2.2.1⟩⟩))
  have H1 := hid h1
  obtain ⟨ai, ci, rfl, hli, hci⟩ := h0
  obtain ⟨af, cf, rfl, hlf, hcf⟩ := h1
  clear hci hcf
  unfold maxLen at hli hlf
  have hfl := fun (W : World) (hr : RdM 1 1 false W (.slice af F.length cf) F) => floorsRight_any _ F W hr
  have g2 : ((w.alloc (.cells #[.slice ai I.length ci, .slice af F.length cf] 26)).alloc (.cells (cellsH emptyX zeroF).toArray 59)).heap[w.heap.size + 1]? = some (.cells (cellsH emptyX zeroF).toArray 59 (0, 0)) := by
    have := heap_alloc_new (w.alloc (.cells #[.slice ai I.length ci, .slice af F.length cf] 26)) (.cells (cellsH emptyX zeroF).toArray 59)
    have e : (w.alloc (.cells #[.slice ai I.length ci, .slice af F.length cf] 26)).heap.size = w.heap.size + 1 := by simp
    rw [e] at this
    exact this
  have HS1 := hid (shAt_of emptyX_length zeroF_length g2)
  have a0_1 : ((w.alloc (.cells #[.slice ai I.length ci, .slice af F.length cf] 26)).alloc (.cells (cellsH emptyX zeroF).toArray 59)).cell? ⟨w.heap.size, 0, none⟩ = some (.slice ai I.length ci) := by go_cell
  have a1_1 : ((w.alloc (.cells #[.slice ai I.length ci, .slice af F.length cf] 26)).alloc (.cells (cellsH emptyX zeroF).toArray 59)).cell? ⟨w.heap.size, 1, none⟩ = some (.slice af F.length cf) := by go_cell
  have c1 : Below w.heap.size w ((w.alloc (.cells #[.slice ai I.length ci, .slice af F.length cf] 26)).alloc (.cells (cellsH emptyX zeroF).toArray 59)) := by go_grown
  clear g2
  by_cases hI : I.length ≤ 4
  · have hv : vsR F = false := by
      cases hv : vsR F with
      | false => rfl
      | true => exact absurd ⟨hI, hv⟩ hn
    have hg : decide ((I.length : Int) > 4) = false := by simp; omega
    rw [hv] at hfl
    clear hI hn hv
    go_enter Try.func19, Try.ntmps19
    go_wp2_with fail
    refine (hfl _ (H1.out.later c1)).mono ?_
    rintro e w2 ⟨rfl, b2⟩
    have c2 := c1.trans (b2.mono c1.size)
    obtain ⟨w3, hst, h3, o3, s3⟩ := stH_at (HS1.out.later b2) emptyX_length zeroF_length
    have H3 := hid h3
    have C3 : Hid (Below w.heap.size w w3) := hid (c2.trans (o3.below (fun k hk => by omega) c2.size))
    clear b2 c2 h3 o3 s3 hfl c1 a0_1 a1_1 HS1
    go_wp2_with fail
    exact bodyPost_ret (shelf_results H3.out _ rfl) rfl ⟨⟨_, _, emptyX_length, zeroF_length, by rw [HO.out]; rfl, fun q => by rw [HO.out] at q; cases q⟩, C3.out⟩
  · have hg : decide ((I.length : Int) > 4) = true := by simp; omega
    obtain ⟨w3, hst, h3, o3, s3⟩ := stH_at HS1.out emptyX_length zeroF_length
    have H3 := hid h3
    have C3 : Hid (Below w.heap.size w w3) := hid (c1.trans (o3.below (fun k hk => by omega) c1.size))
    clear h3 o3 s3 hfl c1 HS1 hI hn
    go_enter Try.func19, Try.ntmps19
    go_wp2_with fail
    exact bodyPost_ret (shelf_results H3.out _ rfl) rfl ⟨⟨_, _, emptyX_length, zeroF_length, by rw [HO.out]; rfl, fun q => by rw [HO.out] at q; cases q⟩, C3.out⟩
end Go.Proofs.Ytilbaiohcfhcaaa
