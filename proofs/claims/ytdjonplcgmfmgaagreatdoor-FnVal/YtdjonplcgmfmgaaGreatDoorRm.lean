/- spec.EdgeRead: contract, the loop. -/
import Derived.Test.YtdjonplcgmfmgaaGreatDoorRe
import Derived.Test.YtdjonplcgmfmgaaGreatDoorTt
import Derived.Test.YtdjonplcgmfmgaaGreatDoorItP
import Derived.Test.YtdjonplcgmfmgaaGreatDoorTo
import Derived.Maps.AppendAt
namespace Go.Proofs.YtdjonplcgmfmgaaGreatDoor
open Go.RowKit Go.Shelf

/-- Pieces that lie at block g. -/
def Lies (w : World) (g : Nat) (P : List (List UInt8)) : Prop := g < w.heap.size ∧ ∀ j, (hj : j < P.length) → w.cell? ⟨g, j, none⟩ = some (.string ⟨P[j].toArray⟩)
theorem lies_row {w : World} {B : Nat} {v : Value} {P : List (List UInt8)} (h : w.ownsRow B 9 1 v P.length (tcells P)) (h0 : 0 < P.length) : ∃ g cp, v = .slice (some ⟨g, 0, none⟩) P.length cp ∧ B ≤ g ∧ Lies w g P := by
  have hh := h
  rcases h.2 with ⟨rfl, hn⟩ | ⟨g, cap, cur, rfl, hb, hg, hnc, hcm, hcs, htake⟩
  · omega
  · refine ⟨g, cap, rfl, hb, (Array.getElem?_eq_some_iff.1 hg).1, fun j hj => ?_⟩
    rw [World.ownsRow.cellAt hh j (by omega)]
    simp [tcells, hj]
theorem Lies.kept {w w' : World} {g : Nat} {P : List (List UInt8)} {row : Option Nat} (h : Lies w g P) (hg : w.grownBy w' row) (hne : some g ≠ row) : Lies w' g P :=
  ⟨Nat.lt_of_lt_of_le h.1 hg.size, fun j hj => hg.cell (h.2 j hj) hne⟩
theorem Lies.alloc {w : World} {g : Nat} {P : List (List UInt8)} (h : Lies w g P) (o : Obj) : Lies (w.alloc o) g P :=
  h.kept (row := none) (grown_of_below ((Below.refl _ w).alloc (Nat.le_refl _) o)) (by simp)

theorem two_new (w : World) (a b : Value) (t : TypeId) : ∀ j u, [a, b][j]? = some u → (w.alloc (.cells #[a, b] t)).cell? ((⟨w.heap.size, 0, none⟩ : Addr).add j) = some u := by
  intro j u h
  match j, h with
  | 0, h => simp at h; subst h; simp [Addr.add, go_sem]
  | 1, h => simp at h; subst h; simp [Addr.add, go_sem]
  | j + 2, h => simp at h

theorem reads_all {s t : ByteArray} {P : List (List UInt8)} (h2 : 2 < s.size) (ht : s.extract 1 (s.size - 1) = t) (hP : cutL 32 t.data.toList = P) : ∀ m, okL m = true → textL m = s.data.toList → P = m.map edgeT := by
  intro m hm he
  have h1 := text_inner he
  rw [ht] at h1
  rw [← hP, h1]
  refine cut_inner (fun e => ?_) (okP hm)
  subst e
  have h3 := text_size he
  rw [show innerL [] = [] from inner_zero []] at h3
  rw [h3] at h2
  exact absurd h2 (by decide)

set_option maxRecDepth 10000 in
set_option maxHeartbeats 4000000 in
theorem specRead_main (s : ByteArray) (w : World) (h : 2 < s.size) (hs : s.size ≤ 200) (hc : (s[0].toNat : Int) = 40) (hd : (s[s.size - 1].toNat : Int) = 41) :
    Calls Tryz.prog 13 #[.string s] w fun e w' => ReadP s.data.toList w.heap.size w' e ∧ Below w.heap.size w w' := by
  obtain ⟨t, ht⟩ : ∃ t, s.extract 1 (s.size - 1) = t := ⟨_, rfl⟩
  have hts : t.size ≤ 200 := by rw [← ht, ByteArray.size_extract]; omega
  obtain ⟨P, hP⟩ : ∃ P, cutL 32 t.data.toList = P := ⟨_, rfl⟩
  have HR := hid (reads_all h ht hP)
  have hP0 : 0 < P.length := by rw [← hP]; exact cut_some _ _
  have hP1 : P.length ≤ 201 := by rw [← hP]; have := cut_many 32 t.data.toList; have e : t.data.toList.length = t.size := rfl; omega
  have HPL : Hid (∀ p ∈ P, p.length ≤ 200) := hidT (fun p hp => by rw [← hP] at hp; have := cut_len _ _ p hp; have e : t.data.toList.length = t.size := rfl; omega)
  have g0 : decide ((s.size : Int) < 2) = false := decide_eq_false (by omega)
  have g1 : decide (200 < (s.size : Int)) = false := decide_eq_false (by omega)
  have g2 : decide (2 < (s.size : Int)) = true := decide_eq_true (by omega)
  have e1 : ((s.size : Int) - 1) = ((s.size - 1 : Nat) : Int) := by omega
  go_enter Tryz.func13, Tryz.ntmps13
  go_wp2_with fail
  have hcut := cut_any t 32 (w.alloc (.cells #[] 53)) (by omega)
  rw [hP, show (((32 : UInt8).toNat : Nat) : Int) = 32 from rfl] at hcut
  refine hcut.mono ?_
  rintro e w1 ⟨v, rfl, row, b1⟩
  obtain ⟨g, cp, rfl, hg, L1⟩ := lies_row row hP0
  clear hcut row
  have hbw : Below w.heap.size w w1 := ((Below.refl _ w).alloc (Nat.le_refl _) (.cells #[] 53)).trans (b1.mono (by simp))
  have hgw : w.heap.size < g := by simp at hg; omega
  have row0 : w1.ownsRow w.heap.size 53 2 (.slice (some ⟨w.heap.size, 0, none⟩) 0 0) 0 (ecells []) := row_later (World.ownsRow_lit w #[] 0 (Nat.le_refl _) (Nat.zero_le _) rfl) b1
  obtain ⟨i0, hi, hz0, hz1, hz2⟩ := info_parts Tryz.info53
  have HL1 := hid L1
  clear L1 b1 hg
  go_wp2_with fail
  go_loopw [5, 7] (fun u i wr => ∃ (k : Nat) (q : List (Int × Int)), k ≤ P.length ∧ i = .int .i64 k ∧ q.length ≤ k ∧ Hid (Took P q k) ∧ Hid (∀ x ∈ q, Small x) ∧ wr.ownsRow w.heap.size 53 2 u q.length (ecells q) ∧ (∃ b cp, u = .slice (some ⟨b, 0, none⟩) q.length cp ∧ b ≠ g) ∧ Hid (Lies wr g P) ∧ Below w.heap.size w wr) (fun _ i _ => P.length - (intOf i).toNat)
  case atStart => exact ⟨0, [], Nat.zero_le _, rfl, Nat.le_refl _, hidT (took_zero P), hidT (fun x hx => by cases hx), row0, ⟨_, _, rfl, by omega⟩, HL1, hbw⟩
  case round =>
    obtain ⟨k, q, hk, rfl, hq, hT, hS, hrow, ⟨gu, cu, rfl, hne⟩, hL, hbel⟩ := hrel
    have hsz := hbel.size
    by_cases hlt : k < P.length
    · obtain ⟨p, hp⟩ : ∃ p : ByteArray, ⟨P[k].toArray⟩ = p := ⟨_, rfl⟩
      have c0 := hL.out.2 k hlt
      rw [hp] at c0
      have hpd : p.data.toList = P[k] := by rw [← hp]
      have hps : p.size ≤ 200 := by
        have h1 : p.data.toList.length = p.size := rfl
        rw [← h1, hpd]
        exact HPL.out _ (List.getElem_mem hlt)
      have hfind := find_any p 64 wr (by omega)
      rw [show (((64 : UInt8).toNat : Nat) : Int) = 64 from rfl] at hfind
      have HX : Hid (∀ m, okL m = true → P = m.map edgeT → ∃ (x : Int × Int) (j : Nat), m[k]? = some x ∧ Small x ∧ findL p.data.toList 64 = j ∧ (p.extract 0 j).data.toList = Lib.itoa x.1 ∧ (p.extract (j + 1) p.size).data.toList = Lib.itoa x.2) := hidT (fun m hm he => piece_find hlt he hm hpd)
      have HF := hid hfind
      clear hfind hp hpd
      go_wp2_with fail
      refine HF.out.mono ?_
      rintro e w2 ⟨rfl, rfl⟩
      clear HF
      rcases find_range p.data.toList 64 with hz | ⟨j, hz, hj⟩
      · have HN : Hid (∀ m, okL m = true → textL m = s.data.toList → 200 < s.data.toList.length) := hidT (fun m hm he => by
          obtain ⟨x, j, _, _, h3, _⟩ := HX.out m hm (HR.out m hm he)
          omega)
        rw [hz]
        clear hz
        go_wp2
        go_ret2
        exact ⟨readP_no _ HN.out, hbel⟩
      · rw [hz]
        obtain ⟨pa, hpa⟩ : ∃ pa, p.extract 0 j = pa := ⟨_, rfl⟩
        obtain ⟨pb, hpb⟩ : ∃ pb, p.extract (j + 1) p.size = pb := ⟨_, rfl⟩
        have hj1 : j < p.size := hj
        have hsa : pa.size ≤ 200 := by rw [← hpa, ByteArray.size_extract]; omega
        have hsb : pb.size ≤ 200 := by rw [← hpb, ByteArray.size_extract]; omega
        have HY : Hid (∀ m, okL m = true → P = m.map edgeT → ∃ x : Int × Int, m[k]? = some x ∧ Small x ∧ pa.data.toList = Lib.itoa x.1 ∧ pb.data.toList = Lib.itoa x.2) := hidT (fun m hm he => by
          obtain ⟨x, j', h1, h2, h3, h4, h5⟩ := HX.out m hm he
          obtain rfl : j' = j := by omega
          exact ⟨x, h1, h2, by rw [← hpa]; exact h4, by rw [← hpb]; exact h5⟩)
        clear HX hz hj
        go_wp2_with fail
        refine (numRead_any pa _ (by omega)).mono ?_
        rintro e w2 ⟨⟨n1, x1, rfl, a0, a1, hx1, _⟩, rfl⟩
        have HX1 := hid hx1
        clear hx1
        go_wp2_with fail
        refine (numRead_any pb _ (by omega)).mono ?_
        rintro e w2 ⟨⟨n2, x2, rfl, b0, b1, hx2, _⟩, rfl⟩
        have HX2 := hid hx2
        clear hx2
        cases x1 with
        | false =>
          have HN : Hid (∀ m, okL m = true → textL m = s.data.toList → 200 < s.data.toList.length) := hidT (fun m hm he => by
            obtain ⟨x, _, ⟨s0, s1, _, _⟩, h4, _⟩ := HY.out m hm (HR.out m hm he)
            exact absurd (HX1.out x.1 s0 s1 h4).2 (by decide))
          go_wp2
          all_goals
            go_ret2
            exact ⟨readP_no _ HN.out, hbel⟩
        | true =>
          cases x2 with
          | false =>
            have HN : Hid (∀ m, okL m = true → textL m = s.data.toList → 200 < s.data.toList.length) := hidT (fun m hm he => by
              obtain ⟨x, _, ⟨_, _, s2, s3⟩, _, h5⟩ := HY.out m hm (HR.out m hm he)
              exact absurd (HX2.out x.2 s2 s3 h5).2 (by decide))
            go_wp2
            all_goals
              go_ret2
              exact ⟨readP_no _ HN.out, hbel⟩
          | true =>
            have HT : Hid (Took P (q ++ [(n1, n2)]) (k + 1)) := hidT (took_step hT.out (fun m hm hP => by
              obtain ⟨x, h1, ⟨s0, s1, s2, s3⟩, h4, h5⟩ := HY.out m hm hP
              rw [h1, (HX1.out x.1 s0 s1 h4).1, (HX2.out x.2 s2 s3 h5).1]))
            have HS : Hid (∀ x ∈ q ++ [(n1, n2)], Small x) := hidT (fun x hx => by
              rw [List.mem_append, List.mem_singleton] at hx
              rcases hx with hx | rfl
              · exact hS.out x hx
              · exact ⟨a0, a1, b0, b1⟩)
            have hk1 : q.length + 1 ≤ maxLen := by unfold maxLen; omega
            have hk2 : (q.length + 1) * 16 ≤ 140737488355328 := by omega
            have hbs : w.heap.size ≤ (w2.alloc (.cells #[.int .i64 n1, .int .i64 n2] 53)).heap.size := by simp; omega
            clear hT hS HX1 HX2 HY
            go_wp2_with (first | (at_builtin; refine wpList_append_own_at _ rfl _ _ 23 rfl w.heap.size 53 i0 (.agg #[.int .i64 0, .int .i64 0]) 2 16 Tryz.underlying23 hi hz0 hz1 hz2 rfl (by decide) _ _ _ rfl (hrow.alloc _) ⟨w2.heap.size, 0, none⟩ 1 1 [.int .i64 n1, .int .i64 n2] rfl rfl (two_new _ _ _ _) (by simp [Value.oneCell']) hk1 hk2 hbs ?_; intro v' w3 hown' hgrow' _ hat; obtain ⟨g', cap', rfl⟩ := ownsRow_succ hown'))
            go_roundw
            case rel =>
              have hL2 := hL.out.alloc (.cells #[.int .i64 n1, .int .i64 n2] 53)
              refine ⟨k + 1, q ++ [(n1, n2)], by omega, by go_num, by simp; omega, HT, HS, by rw [ecells_append]; simpa [ecells] using hown', ⟨g', cap', by simp, ?_⟩, hidT (hL2.kept hgrow' (fun e => hne (Option.some.inj e).symm)), (hbel.trans (((Below.refl _ w2).alloc (Nat.le_refl _) _).mono hsz)).grown hgrow' hbs (fun j ej => (hrow.lt j ej).1)⟩
              have hLg := hL.out.1
              rcases hat with hat | hat
              · have := Option.some.inj hat
                simp at this
                omega
              · have := Option.some.inj hat
                simp at this
                omega
            case measure => first | (simp [intOf]; done) | (simp [intOf]; omega)
    · obtain rfl : k = P.length := by omega
      have hown : Own wr w.heap.size (.slice (some ⟨gu, 0, none⟩) q.length cu) q := hrow
      have HQ : Hid (∀ m, okL m = true → textL m = s.data.toList → q = m) := hidT (fun m hm he => by
        have h1 := HR.out m hm he
        rw [hT.out.2 m hm h1, h1, List.length_map, List.take_length])
      have HO := hid hown
      have hql : q.length ≤ 201 := by omega
      clear hT hrow hown
      go_wp2_with fail
      refine (specOk_any _ q _ HO.out.rd).mono ?_
      rintro e w2 ⟨rfl, b2⟩
      cases hok : okL q with
      | false =>
        have HN : Hid (∀ m, okL m = true → textL m = s.data.toList → 200 < s.data.toList.length) := hidT (fun m hm he => by
          rw [← HQ.out m hm he, hok] at hm
          cases hm)
        clear hok
        go_wp2
        go_ret2
        exact ⟨readP_no _ HN.out, hbel.trans (b2.mono hsz)⟩
      | true =>
        have HK := hid hok
        clear hok
        go_wp2_with fail
        refine (specText_any _ q _ (HO.out.rd.later b2) (by omega) (small_wf hS.out)).mono ?_
        rintro e w3 ⟨rfl, b3⟩
        have hb2 := b2.mono hsz
        have hb3 := b3.mono (Nat.le_trans hsz b2.size)
        by_cases HE : textL q = s.data.toList
        · have HE2 := hid HE
          rw [show (⟨(textL q).toArray⟩ : ByteArray) = s from (bytes_eq HE.symm).symm]
          clear HE
          go_wp2
          all_goals
            go_ret2
            exact ⟨⟨_, q, true, by simp, (HO.out.rd.later b2).later b3, Or.inl ⟨rfl, HK.out, HE2.out, hs⟩, fun k hk => (HO.out.block k hk).1⟩, (hbel.trans hb2).trans hb3⟩
        · have HN : Hid (∀ m, okL m = true → textL m = s.data.toList → 200 < s.data.toList.length) := hidT (fun m hm he => by
            have h1 := HQ.out m hm he
            rw [h1] at HE
            exact absurd he HE)
          have hne2 : ¬ (⟨(textL q).toArray⟩ : ByteArray) = s := fun e => HE (by rw [← e])
          have d1 : (textL q == s.toList) = false := by rw [ByteArray.toList_eq]; exact beq_eq_false_iff_ne.mpr HE
          clear HE
          go_wp2
          go_ret2
          exact ⟨readP_no _ HN.out, (hbel.trans hb2).trans hb3⟩
end Go.Proofs.YtdjonplcgmfmgaaGreatDoor
