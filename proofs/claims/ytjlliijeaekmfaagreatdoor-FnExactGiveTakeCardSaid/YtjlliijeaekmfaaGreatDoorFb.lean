import Derived.Test.YtjlliijeaekmfaaGreatDoorDq
import Derived.Test.YtjlliijeaekmfaaGreatDoorDt
namespace Go.Proofs.YtjlliijeaekmfaaGreatDoor
open Go.RowKit Go.Shelf
attribute [local go_sem] Oper.semAt_some
theorem own_later {w w' : World} {base : Nat} {e : TypeId} {size : Nat} {v : Value} {n : Nat} {xs : List Value} (h : w.ownsRow base e size v n xs) (hb : Below w.heap.size w w') : w'.ownsRow base e size v n xs := by
 obtain ⟨h0, ⟨hv, hn⟩ | ⟨g, cap, cur, hv, hbb, hg, hr⟩⟩ := h
 · exact ⟨h0, .inl ⟨hv, hn⟩⟩
 · exact ⟨h0, .inr ⟨g, cap, cur, hv, hbb, (hb.block _ (alt hg)).trans hg, hr⟩⟩
def P8 (P : Nat) (frm : Int) (x : Hx) (Z : Nat) (j : Nat) (v : Value) (w : World) : Prop :=
 match j with
 | 0 => v = x.val
 | 1 => v = .pointer (some ⟨P, 0, none⟩)
 | 2 => v = .pointer (some ⟨P, 0, none⟩)
 | 3 => v = .pointer (some ⟨P, 0, none⟩)
 | 4 => v = .pointer (some ⟨P, 0, none⟩)
 | 5 => v = .int .i64 frm
 | 6 => ∃ x' : Hx, v = x'.val /\ (cutH frm x).Like x' /\ TOwn Z w x' /\ x'.bs.Nodup
 | _ => True
end Go.Proofs.YtjlliijeaekmfaaGreatDoor
namespace Go.Proofs.YtjlliijeaekmfaaGreatDoor
open Go.RowKit Go.Shelf
attribute [local go_sem] Oper.semAt_some
theorem book_now {b : Bk} (h : bookB b = true) : 0 <= b.now /\ b.now <= 10000 := by
 simp only [bookB, Bool.and_eq_true] at h; have h1 := h.1; simp only [nowB, decide_eq_true_eq] at h1; exact h1
end Go.Proofs.YtjlliijeaekmfaaGreatDoor
namespace Go.Proofs.YtjlliijeaekmfaaGreatDoor
open Go.RowKit Go.Shelf
attribute [local go_sem] Oper.semAt_some
theorem atI_cases (l : List Hx) (nm : ByteArray) : atI l nm = -1 ∨ ∃ j, j < l.length /\ atI l nm = (j : Int) := by
 unfold atI
 cases h : l.findIdx? (fun h => h.n.toList == nm.toList) with
 | none => exact .inl rfl
 | some i => exact .inr ⟨i, (List.findIdx?_eq_some_iff_getElem.1 h).1, rfl⟩
def SpecOk (b : Bk) (w : World) : Prop := ∀ W, Below w.heap.size w W -> Calls Tryz.prog 40 #[b.val] W fun e w' => e = .returned (.bool (bookB b)) /\ Below W.heap.size W w'
end Go.Proofs.YtjlliijeaekmfaaGreatDoor
