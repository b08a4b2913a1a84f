/- An array of 24 values by value: loaded, indexed, asked whether each row is right: contracts. -/
import Derived.Test.YtpdfhffmhlgcmaaGt
import Derived.BigQuiet
import Derived.Lib.QuietBelow
import Derived.Deep.RegionHeld3
import Derived.Laws.Rows
namespace Go.Proofs.Ytpdfhffmhlgcmaa
open Go.RowKit
attribute [local go_sem ↓] Go.wp_at_zero Go.wp_at_succ

theorem Try.infoR : (Try.prog.info? 43).map (·.size) = some 48 := by kernel_rfl
theorem Try.infoV : (Try.prog.info? 37).map (·.size) = some 2 := by kernel_rfl
theorem size_val (w : World) : (sizeOf 37).run Try.prog w = .ok 2 w := by
  cases hq : Try.prog.info? 37 with
  | none => have := Try.infoV; rw [hq] at this; cases this
  | some i =>
    have hs : i.size = 2 := by have := Try.infoV; rw [hq] at this; simpa using this
    simp [sizeOf, typeInfo, hq, hs]
theorem agg_val (w : World) : (isAgg 37).run Try.prog w = .ok true w := by
  unfold isAgg
  rw [Sem.run_bind, run_underlying Try.underlying37 w]
  rfl

/-- An array of 24 values, by value. -/
structure AgG (w : World) (cs : Array Value) (L : List ValD) : Prop where
  size : cs.size = 48
  len : L.length = 24
  num : ∀ k, k < 24 → cs[k * 2]? = some (.int .i64 (L.getD k valD0).1)
  kin : ∀ k, k < 24 → ∃ u, cs[k * 2 + 1]? = some u ∧ Rd w u (L.getD k valD0).2
theorem AgG.later {w w' : World} {cs : Array Value} {L : List ValD} (h : AgG w cs L) (hb : Below w.heap.size w w') : AgG w' cs L :=
  ⟨h.size, h.len, h.num, fun k hk => by obtain ⟨u, hu, hr⟩ := h.kin k hk; exact ⟨u, hu, hr.later hb⟩⟩
theorem AgG.one {w : World} {cs : Array Value} {L : List ValD} (h : AgG w cs L) : cs.all (·.oneCell') = true := by
  rw [Array.all_eq_true]
  intro i hi
  have hi := h.size ▸ hi
  rcases Nat.mod_two_eq_zero_or_one i with e | e
  · have := h.num (i / 2) (by omega)
    rw [show i / 2 * 2 = i from by omega] at this
    obtain ⟨_, he⟩ := Array.getElem?_eq_some_iff.1 this
    rw [he]; rfl
  · obtain ⟨u, hu, hr⟩ := h.kin (i / 2) (by omega)
    rw [show i / 2 * 2 + 1 = i from by omega] at hu
    obtain ⟨_, he⟩ := Array.getElem?_eq_some_iff.1 hu
    obtain ⟨ao, cap, hv, _⟩ := hr
    rw [he, hv]; rfl

theorem ld_row (w : World) (g : Nat) (cs : Array Value) (fr : Nat × Nat) (t : TypeId) (hg : w.heap[g]? = some (.cells cs t fr)) (hs : cs.size = 48) :
    (loadVar 43 ⟨g, 0, none⟩).run Try.prog w = .ok (.agg cs) w :=
  run_loadVar_row w g t _ cs fr _ hg Try.underlying43 rfl (by rw [Try.infoR, hs])
/-- A whole array out of memory, and into it (names that the walk does not take apart). -/
def ldS (v : Value) : Sem Value := Instr.loadAt 43 v
theorem ldS_open (v : Value) : Instr.loadAt 43 v = ldS v := rfl
def stS (p v : Value) : Sem Unit := Instr.storeAt 43 p v
theorem stS_open (p v : Value) : Instr.storeAt 43 p v = stS p v := rfl
theorem ldS_row {w : World} {g : Nat} {cs : Array Value} {fr : Nat × Nat} {t : TypeId} (hg : w.heap[g]? = some (.cells cs t fr)) (hs : cs.size = 48) :
    (ldS (.pointer (some ⟨g, 0, none⟩))).run Try.prog w = .ok (.agg cs) w := by
  simp only [ldS, Instr.loadAt, Instr.sureAddr, Sem.run_bind, Sem.run_pure, Result.andThen]
  exact ld_row w g cs fr t hg hs
theorem stS_row {w : World} {g : Nat} {old cs : Array Value} {t : TypeId} (hg : w.heap[g]? = some (.cells old t (0, 0))) (ho : old.size = 48) (hs : cs.size = 48) (h1 : cs.all (·.oneCell') = true) :
    (stS (.pointer (some ⟨g, 0, none⟩)) (.agg cs)).run Try.prog w = .ok () (w.setRow g cs) := by
  simp only [stS, Instr.storeAt, Instr.sureAddr, Sem.run_bind, Sem.run_pure, Result.andThen]
  exact run_storeVar_row w g t _ old cs hg (by rw [Try.infoR, hs]) (by rw [ho, hs]) h1
attribute [local go_sem ↓] ldS_open stS_open
theorem ix_row (w : World) (cs : Array Value) (k : Nat) (hk : k < 24) (x u : Value) (hs : cs.size = 48) (h0 : cs[k * 2]? = some x) (h1 : cs[k * 2 + 1]? = some u) :
    (Instr.index 43 (.agg cs) (.int .i64 (k : Int))).run Try.prog w = .ok (.agg #[x, u]) w := by
  have hx : cs.extract (k * 2) (k * 2 + 2) = #[x, u] := by
    refine Array.ext_getElem? fun j => ?_
    rw [Array.getElem?_extract]
    match j with
    | 0 => simp [h0]; omega
    | 1 => simp [h1]; omega
    | j + 2 => simp; omega
  have hin : (0 : Int) ≤ (k : Int) ∧ (k : Int) < ((24 : Nat) : Int) := ⟨by omega, by omega⟩
  simp [Instr.index, run_underlying Try.underlying43 w, asIntOf, hin, part, hx]
  omega

def ixS (x k : Value) : Sem Value := Instr.index 43 x k
theorem ixS_open (x k : Value) : Instr.index 43 x k = ixS x k := rfl
theorem ixS_row (w : World) {cs : Array Value} {k : Nat} (hk : k < 24) {x u : Value} (hs : cs.size = 48) (h0 : cs[k * 2]? = some x) (h1 : cs[k * 2 + 1]? = some u) :
    (ixS (.agg cs) (.int .i64 (k : Int))).run Try.prog w = .ok (.agg #[x, u]) w := ix_row w cs k hk x u hs h0 h1
attribute [local go_sem ↓] ixS_open

set_option maxRecDepth 100000 in
set_option maxHeartbeats 1000000 in
theorem rightRows_any (cs : Array Value) (L : List ValD) (w : World) (h : AgG w cs L) :
    Calls Try.prog 14 #[.agg cs] w fun e w' => e = .returned (.bool (rightG L)) ∧ Below w.heap.size w w' := by
  have hl := ldS_row (heap_alloc_new w (.cells cs 43)) h.size
  go_enter Try.func14, Try.ntmps14
  go_wp2_with fail
  clear hl
  go_loopw [6] (fun i wr => ∃ k : Nat, k ≤ 24 ∧ i = .int .i64 k ∧ Hid (RightTo L k) ∧ Below w.heap.size w wr) (fun i _ => 24 - (intOf i).toNat)
  case atStart => exact ⟨0, Nat.zero_le _, rfl, RightTo.zero L, by go_grown⟩
  case round =>
    obtain ⟨k, hk, rfl, hpre, hbel⟩ := hrel
    by_cases hlt : k < 24
    · obtain ⟨u, hu, hr⟩ := (h.later hbel).kin k hlt
      have hn := h.num k hlt
      have hix := fun W => ixS_row W hlt h.size hn hu
      have HR := hid hr
      have hyes : Hid (okV (k : Int) (L.getD k valD0).1 (L.getD k valD0).2 = true → RightTo L (k + 1)) := hid (fun h => hpre.out.step h)
      have hno : Hid (okV (k : Int) (L.getD k valD0).1 (L.getD k valD0).2 = false → rightG L = false) := hid (fun h => rightG_no k hlt h)
      obtain ⟨uo, uc, rfl, _⟩ := id hr
      have hsz := hbel.size
      clear hu hn hpre
      generalize L.getD k valD0 = x at *
      go_wp2_with fail
      refine (implOkV_any (k : Int) x.1 _ x.2 _ (hr.later (by go_grown))).mono ?_
      rintro e w1 ⟨rfl, b1⟩
      have c1 : Below w.heap.size w w1 := hbel.trans ((show Below wr.heap.size wr w1 from (Below.trans (by go_grown) (b1.mono (by first | omega | (simp; done) | (simp; omega))))).mono hsz)
      cases hok : okV (k : Int) x.1 x.2 with
      | true =>
        have hN := hid (hyes.out hok)
        go_wp2
        go_roundw
        case rel => exact ⟨k + 1, by omega, by go_num, hN, c1⟩
        case measure => simp [intOf]; omega
      | false =>
        have hN := hno.out hok
        go_wp2
        go_ret
        exact ⟨by simp [hN], c1⟩
    · have hk24 : k = 24 := by omega
      subst hk24
      have hall : rightG L = true := rightG_iff.2 hpre.out
      go_wp2
      go_ret
      exact ⟨by simp [hall], hbel⟩
end Go.Proofs.Ytpdfhffmhlgcmaa
