/- Plain: two lists of edges have one text just if they are one; two numbers likewise. -/
import Derived.Test.YtdjonplcgmfmgaaGreatDoorTt
namespace Go.Proofs.YtdjonplcgmfmgaaGreatDoor

theorem dig_byte {d : Nat} (h : d < 10) : (UInt8.ofNat (48 + d)).toNat = 48 + d := by rw [UInt8.toNat_ofNat']; omega
theorem dec_small {k : Nat} (h : k < 10) : Lib.decDigits k = [UInt8.ofNat (48 + k)] := Lib.decDigits_one h
theorem dec_ne (u : Nat) : Lib.decDigits u ≠ [] := fun e => by
  have h := Lib.decDigits_length u
  rw [e] at h
  have := Lib.nDigits_pos u
  simp at h
  omega
theorem dec_range (u : Nat) : ∀ c ∈ Lib.decDigits u, 48 ≤ c.toNat ∧ c.toNat ≤ 57 := by
  induction u using Nat.strongRecOn with
  | ind u ih =>
    intro c hc
    by_cases h : 9 < u
    · rw [dec_step h, List.mem_append, List.mem_singleton] at hc
      rcases hc with hc | hc
      · exact ih (u / 10) (by omega) c hc
      · rw [hc, dig_byte (by omega)]; omega
    · rw [dec_small (by omega), List.mem_singleton] at hc
      rw [hc, dig_byte (by omega)]; omega
theorem dec_inj (a : Nat) : ∀ b, Lib.decDigits a = Lib.decDigits b → a = b := by
  induction a using Nat.strongRecOn with
  | ind a ih =>
    intro b h
    by_cases ha : 9 < a
    · by_cases hb : 9 < b
      · rw [dec_step ha, dec_step hb] at h
        obtain ⟨h1, h2⟩ := List.append_inj' h rfl
        have h3 := ih (a / 10) (by omega) (b / 10) h1
        have h4 := congrArg UInt8.toNat (List.cons.inj h2).1
        rw [dig_byte (by omega), dig_byte (by omega)] at h4
        omega
      · rw [dec_step ha, dec_small (k := b) (by omega)] at h
        have h1 := congrArg List.length h
        simp at h1
        exact absurd h1 (dec_ne _)
    · by_cases hb : 9 < b
      · rw [dec_step hb, dec_small (k := a) (by omega)] at h
        have h1 := congrArg List.length h
        simp at h1
        exact absurd h1 (dec_ne _)
      · rw [dec_small (k := a) (by omega), dec_small (k := b) (by omega)] at h
        have h4 := congrArg UInt8.toNat (List.cons.inj h).1
        rw [dig_byte (by omega), dig_byte (by omega)] at h4
        omega
theorem itoa_inj {a b : Int} (ha : 0 ≤ a) (hb : 0 ≤ b) (h : Lib.itoa a = Lib.itoa b) : a = b := by
  rw [itoa_pos ha, itoa_pos hb] at h
  have := dec_inj _ _ h
  omega
theorem itoa_free {a : Int} (ha : 0 ≤ a) {c : UInt8} (hc : c.toNat < 48 ∨ 57 < c.toNat) : c ∉ Lib.itoa a := fun h => by
  rw [itoa_pos ha] at h
  have := dec_range _ c h
  omega

theorem sep_split {c : UInt8} : ∀ (x y s t : List UInt8), c ∉ x → c ∉ y → (s = [] ∨ ∃ r, s = c :: r) → (t = [] ∨ ∃ r, t = c :: r) → x ++ s = y ++ t → x = y ∧ s = t
  | [], [], s, t, _, _, _, _, h => ⟨rfl, h⟩
  | [], b :: y, s, t, _, hy, hs, _, h => by
    rcases hs with rfl | ⟨r, rfl⟩
    · simp at h
    · simp only [List.nil_append, List.cons_append, List.cons.injEq] at h
      exact absurd (h.1 ▸ List.mem_cons_self) hy
  | a :: x, [], s, t, hx, _, _, ht, h => by
    rcases ht with rfl | ⟨r, rfl⟩
    · simp at h
    · simp only [List.nil_append, List.cons_append, List.cons.injEq] at h
      exact absurd (h.1 ▸ List.mem_cons_self) hx
  | a :: x, b :: y, s, t, hx, hy, hs, ht, h => by
    simp only [List.cons_append, List.cons.injEq] at h
    have := sep_split x y s t (fun m => hx (List.mem_cons_of_mem _ m)) (fun m => hy (List.mem_cons_of_mem _ m)) hs ht h.2
    exact ⟨by rw [h.1, this.1], this.2⟩

def PosE (x : Int × Int) : Prop := 0 ≤ x.1 ∧ 0 ≤ x.2
theorem edgeT_inj {x y : Int × Int} (hx : PosE x) (hy : PosE y) (h : edgeT x = edgeT y) : x = y := by
  have h64 : (64 : UInt8).toNat < 48 ∨ 57 < (64 : UInt8).toNat := by decide
  obtain ⟨h1, h2⟩ := sep_split (c := 64) _ _ _ _ (itoa_free hx.1 h64) (itoa_free hy.1 h64) (.inr ⟨_, rfl⟩) (.inr ⟨_, rfl⟩) h
  exact Prod.ext (itoa_inj hx.1 hy.1 h1) (itoa_inj hx.2 hy.2 (List.cons.inj h2).2)
theorem edgeT_free {x : Int × Int} (hx : PosE x) : (32 : UInt8) ∉ edgeT x := fun h => by
  have h32 : (32 : UInt8).toNat < 48 ∨ 57 < (32 : UInt8).toNat := by decide
  rw [edgeT, List.mem_append, List.mem_cons] at h
  rcases h with h | h | h
  · exact itoa_free hx.1 h32 h
  · exact absurd h (by decide)
  · exact itoa_free hx.2 h32 h
theorem edgeT_ne (x : Int × Int) : edgeT x ≠ [] := by simp [edgeT]

theorem joinTail_cons (x : List UInt8) (r : List (List UInt8)) : Lib.joinTail [32] (x :: r) = 32 :: (x ++ Lib.joinTail [32] r) := by simp [Lib.joinTail]
theorem joinTail_head (r : List (List UInt8)) : Lib.joinTail [32] r = [] ∨ ∃ s, Lib.joinTail [32] r = 32 :: s := by
  cases r with
  | nil => exact .inl rfl
  | cons x r => exact .inr ⟨_, joinTail_cons x r⟩
theorem tail_inj : ∀ (l m : List (Int × Int)), (∀ x ∈ l, PosE x) → (∀ x ∈ m, PosE x) → Lib.joinTail [32] (l.map edgeT) = Lib.joinTail [32] (m.map edgeT) → l = m
  | [], [], _, _, _ => rfl
  | [], y :: m, _, _, h => by rw [List.map_cons, joinTail_cons] at h; cases h
  | x :: l, [], _, _, h => by rw [List.map_cons, joinTail_cons] at h; cases h
  | x :: l, y :: m, hl, hm, h => by
    rw [List.map_cons, List.map_cons, joinTail_cons, joinTail_cons] at h
    have hx := hl x List.mem_cons_self
    have hy := hm y List.mem_cons_self
    obtain ⟨h1, h2⟩ := sep_split (c := 32) _ _ _ _ (edgeT_free hx) (edgeT_free hy) (joinTail_head _) (joinTail_head _) (List.cons.inj h).2
    rw [edgeT_inj hx hy h1, tail_inj l m (fun z hz => hl z (List.mem_cons_of_mem _ hz)) (fun z hz => hm z (List.mem_cons_of_mem _ hz)) h2]
theorem inner_inj {l m : List (Int × Int)} (hl : ∀ x ∈ l, PosE x) (hm : ∀ x ∈ m, PosE x) (h : innerL l = innerL m) : l = m := by
  unfold innerL at h
  cases l with
  | nil =>
    cases m with
    | nil => rfl
    | cons y m =>
      rw [List.map_cons, Lib.join_cons, List.map_nil, Lib.join_nil] at h
      exact absurd (List.append_eq_nil_iff.1 h.symm).1 (edgeT_ne y)
  | cons x l =>
    cases m with
    | nil =>
      rw [List.map_cons, Lib.join_cons, List.map_nil, Lib.join_nil] at h
      exact absurd (List.append_eq_nil_iff.1 h).1 (edgeT_ne x)
    | cons y m =>
      rw [List.map_cons, Lib.join_cons, List.map_cons, Lib.join_cons] at h
      have hx := hl x List.mem_cons_self
      have hy := hm y List.mem_cons_self
      obtain ⟨h1, h2⟩ := sep_split (c := 32) _ _ _ _ (edgeT_free hx) (edgeT_free hy) (joinTail_head _) (joinTail_head _) h
      rw [edgeT_inj hx hy h1, tail_inj l m (fun z hz => hl z (List.mem_cons_of_mem _ hz)) (fun z hz => hm z (List.mem_cons_of_mem _ hz)) h2]
theorem textL_inj {l m : List (Int × Int)} (hl : ∀ x ∈ l, PosE x) (hm : ∀ x ∈ m, PosE x) (h : textL l = textL m) : l = m := by
  unfold textL at h
  simp only [List.cons_append, List.cons.injEq, true_and] at h
  exact inner_inj hl hm (List.append_inj_left' h rfl)
end Go.Proofs.YtdjonplcgmfmgaaGreatDoor
