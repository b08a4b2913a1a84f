/- The draw of a text, torn or not: contract. -/
import Derived.Test.YtiplklcabcpccaaGreatDoorSo
namespace Go.Proofs.YtiplklcabcpccaaGreatDoor
open Go.RowKit Go.Shelf

theorem strs_six (w : World) (a b c d e f : ByteArray) (P : ByteArray → Prop) (ha : P a) (hb : P b) (hc : P c) (hd : P d) (he : P e) (hf : P f) : Strs (w.alloc (.cells #[.string a, .string b, .string c, .string d, .string e, .string f] 9)) w.heap.size 6 P := by
  refine ⟨by simp, fun i hi => ?_⟩
  rcases i with _ | _ | _ | _ | _ | _ | i
  · exact ⟨a, by go_cell, ha⟩
  · exact ⟨b, by go_cell, hb⟩
  · exact ⟨c, by go_cell, hc⟩
  · exact ⟨d, by go_cell, hd⟩
  · exact ⟨e, by go_cell, he⟩
  · exact ⟨f, by go_cell, hf⟩
  · omega

theorem wrap_small {m : Nat} (h : m ≤ 400) : IntKind.i64.wrap (m : Int) = (m : Int) := by
  simp [IntKind.wrap, IntKind.bits, IntKind.signed]
  omega
theorem Strs.drew {w : World} {b m : Nat} {P : ByteArray → Prop} (h : Strs w b m P) : Strs w.drew b m P := ⟨by simpa using h.1, fun i hi => by simpa using h.2 i hi⟩
theorem first_strs (w : World) (P : ByteArray → Prop) (ha : P ⟨#[]⟩) (hb : P ⟨#[48]⟩) (hc : P ⟨#[64]⟩) (hd : P ⟨#[32]⟩) (he : P ⟨#[41]⟩) (hf : P ⟨#[45]⟩) : Strs (w.alloc (.cells #[.string ⟨#[]⟩, .string ⟨#[48]⟩, .string ⟨#[64]⟩, .string ⟨#[32]⟩, .string ⟨#[41]⟩, .string ⟨#[45]⟩] 9)).drew w.heap.size 6 P :=
  (strs_six w _ _ _ _ _ _ P ha hb hc hd he hf).drew

end Go.Proofs.YtiplklcabcpccaaGreatDoor
