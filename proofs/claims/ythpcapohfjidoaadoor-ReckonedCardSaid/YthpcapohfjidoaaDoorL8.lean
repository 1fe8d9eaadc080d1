/- The six lines of Reckoned: what each tells and leaves, and that no word in it is bold. -/
import Derived.Test.YthpcapohfjidoaaDoorL7
namespace Go.Proofs.YthpcapohfjidoaaDoor
open Go.RowKit
namespace L

/-- A line of three numbers and words that leave v and tell it. -/
def LineOk (x y z : Int) (word : List UInt8) (v : Int) : Prop :=
  (∃ k, runAll (split (line3 x y z word)).length (at' (split (line3 x y z word)) [] [] 0 []) = (at' (split (line3 x y z word)) [v] [] k (Lib.itoa v ++ [32]), 0)) ∧ (∀ l ∈ split (line3 x y z word), isBold l = false) ∧ inI64 v

theorem plain3 {x y z : Int} {word : List UInt8} {W : List (List UInt8)} (hx : -1000000000000000000 < x ∧ x < 1000000000000000000) (hy : -1000000000000000000 < y ∧ y < 1000000000000000000) (hz : -1000000000000000000 < z ∧ z < 1000000000000000000) (hs : split word = W) (hW : W.all (fun l => !isBold l) = true) :
    ∀ l ∈ split (line3 x y z word), isBold l = false := by
  rw [split_line3, hs]
  intro l hl
  rcases List.mem_cons.1 hl with rfl | hl
  · exact bold_of_number (number_itoa x hx.1 hx.2)
  rcases List.mem_cons.1 hl with rfl | hl
  · exact bold_of_number (number_itoa y hy.1 hy.2)
  rcases List.mem_cons.1 hl with rfl | hl
  · exact bold_of_number (number_itoa z hz.1 hz.2)
  have := List.all_eq_true.1 hW l hl
  simpa using this

theorem line_0 (x y z : Int) (hx : -1000000000000000000 < x ∧ x < 1000000000000000000) (hy : -1000000000000000000 < y ∧ y < 1000000000000000000) (hz : -1000000000000000000 < z ∧ z < 1000000000000000000) :
    LineOk x y z [43, 32, 42, 32, 100, 117, 112, 32, 46] (wrap64 (x * wrap64 (y + z))) := by
  have hs : split [43, 32, 42, 32, 100, 117, 112, 32, 46] = [[43], [42], [100, 117, 112], [46]] := by kernel_rfl
  refine ⟨⟨7, ?_⟩, plain3 hx hy hz hs (by kernel_rfl), in_wrap _⟩
  · have hsp := split_line3 x y z [43, 32, 42, 32, 100, 117, 112, 32, 46]
    rw [hs] at hsp
    rw [hsp]
    show runAll (4 + 1 + 1 + 1) _ = _
    rw [run_three hx hy hz rfl rfl rfl]
    rw [runAll_go (n := 3) (l := [43]) (S' := [x, wrap64 (y + z)]) (R' := []) (out' := []) rfl (by kernel_rfl)]
    rw [runAll_go (n := 2) (l := [42]) (S' := [wrap64 (x * wrap64 (y + z))]) (R' := []) (out' := []) rfl (by kernel_rfl)]
    exact run_end (in_wrap _) (by omega) rfl rfl

theorem line_1 (x y z : Int) (hx : -1000000000000000000 < x ∧ x < 1000000000000000000) (hy : -1000000000000000000 < y ∧ y < 1000000000000000000) (hz : -1000000000000000000 < z ∧ z < 1000000000000000000) :
    LineOk x y z [45, 32, 120, 111, 114, 32, 100, 117, 112, 32, 46] (bits .xor .i64 x (wrap64 (y - z))) := by
  have hs : split [45, 32, 120, 111, 114, 32, 100, 117, 112, 32, 46] = [[45], [120, 111, 114], [100, 117, 112], [46]] := by kernel_rfl
  refine ⟨⟨7, ?_⟩, plain3 hx hy hz hs (by kernel_rfl), in_bits _ _ _⟩
  · have hsp := split_line3 x y z [45, 32, 120, 111, 114, 32, 100, 117, 112, 32, 46]
    rw [hs] at hsp
    rw [hsp]
    show runAll (4 + 1 + 1 + 1) _ = _
    rw [run_three hx hy hz rfl rfl rfl]
    rw [runAll_go (n := 3) (l := [45]) (S' := [x, wrap64 (y - z)]) (R' := []) (out' := []) rfl (by kernel_rfl)]
    rw [runAll_go (n := 2) (l := [120, 111, 114]) (S' := [bits .xor .i64 x (wrap64 (y - z))]) (R' := []) (out' := []) rfl (by kernel_rfl)]
    exact run_end (in_bits _ _ _) (by omega) rfl rfl

theorem line_2 (x y z : Int) (hx : -1000000000000000000 < x ∧ x < 1000000000000000000) (hy : -1000000000000000000 < y ∧ y < 1000000000000000000) (hz : -1000000000000000000 < z ∧ z < 1000000000000000000) :
    LineOk x y z [42, 32, 43, 32, 100, 117, 112, 32, 46] (wrap64 (x + wrap64 (y * z))) := by
  have hs : split [42, 32, 43, 32, 100, 117, 112, 32, 46] = [[42], [43], [100, 117, 112], [46]] := by kernel_rfl
  refine ⟨⟨7, ?_⟩, plain3 hx hy hz hs (by kernel_rfl), in_wrap _⟩
  · have hsp := split_line3 x y z [42, 32, 43, 32, 100, 117, 112, 32, 46]
    rw [hs] at hsp
    rw [hsp]
    show runAll (4 + 1 + 1 + 1) _ = _
    rw [run_three hx hy hz rfl rfl rfl]
    rw [runAll_go (n := 3) (l := [42]) (S' := [x, wrap64 (y * z)]) (R' := []) (out' := []) rfl (by kernel_rfl)]
    rw [runAll_go (n := 2) (l := [43]) (S' := [wrap64 (x + wrap64 (y * z))]) (R' := []) (out' := []) rfl (by kernel_rfl)]
    exact run_end (in_wrap _) (by omega) rfl rfl

theorem line_3 (x y z : Int) (hx : -1000000000000000000 < x ∧ x < 1000000000000000000) (hy : -1000000000000000000 < y ∧ y < 1000000000000000000) (hz : -1000000000000000000 < z ∧ z < 1000000000000000000) :
    LineOk x y z [114, 111, 116, 32, 114, 111, 116, 32, 97, 110, 100, 32, 111, 114, 32, 100, 117, 112, 32, 46] (bits .or .i64 z (bits .and .i64 x y)) := by
  have hs : split [114, 111, 116, 32, 114, 111, 116, 32, 97, 110, 100, 32, 111, 114, 32, 100, 117, 112, 32, 46] = [[114, 111, 116], [114, 111, 116], [97, 110, 100], [111, 114], [100, 117, 112], [46]] := by kernel_rfl
  refine ⟨⟨9, ?_⟩, plain3 hx hy hz hs (by kernel_rfl), in_bits _ _ _⟩
  · have hsp := split_line3 x y z [114, 111, 116, 32, 114, 111, 116, 32, 97, 110, 100, 32, 111, 114, 32, 100, 117, 112, 32, 46]
    rw [hs] at hsp
    rw [hsp]
    show runAll (6 + 1 + 1 + 1) _ = _
    rw [run_three hx hy hz rfl rfl rfl]
    rw [runAll_go (n := 5) (l := [114, 111, 116]) (S' := [y, z, x]) (R' := []) (out' := []) rfl (by kernel_rfl)]
    rw [runAll_go (n := 4) (l := [114, 111, 116]) (S' := [z, x, y]) (R' := []) (out' := []) rfl (by kernel_rfl)]
    rw [runAll_go (n := 3) (l := [97, 110, 100]) (S' := [z, bits .and .i64 x y]) (R' := []) (out' := []) rfl (by kernel_rfl)]
    rw [runAll_go (n := 2) (l := [111, 114]) (S' := [bits .or .i64 z (bits .and .i64 x y)]) (R' := []) (out' := []) rfl (by kernel_rfl)]
    exact run_end (in_bits _ _ _) (by omega) rfl rfl

theorem line_4 (x y z : Int) (hx : -1000000000000000000 < x ∧ x < 1000000000000000000) (hy : -1000000000000000000 < y ∧ y < 1000000000000000000) (hz : -1000000000000000000 < z ∧ z < 1000000000000000000) :
    LineOk x y z [115, 119, 97, 112, 32, 111, 118, 101, 114, 32, 43, 32, 43, 32, 45, 32, 100, 117, 112, 32, 46] (wrap64 (x - wrap64 (z + wrap64 (y + z)))) := by
  have hs : split [115, 119, 97, 112, 32, 111, 118, 101, 114, 32, 43, 32, 43, 32, 45, 32, 100, 117, 112, 32, 46] = [[115, 119, 97, 112], [111, 118, 101, 114], [43], [43], [45], [100, 117, 112], [46]] := by kernel_rfl
  refine ⟨⟨10, ?_⟩, plain3 hx hy hz hs (by kernel_rfl), in_wrap _⟩
  · have hsp := split_line3 x y z [115, 119, 97, 112, 32, 111, 118, 101, 114, 32, 43, 32, 43, 32, 45, 32, 100, 117, 112, 32, 46]
    rw [hs] at hsp
    rw [hsp]
    show runAll (7 + 1 + 1 + 1) _ = _
    rw [run_three hx hy hz rfl rfl rfl]
    rw [runAll_go (n := 6) (l := [115, 119, 97, 112]) (S' := [x, z, y]) (R' := []) (out' := []) rfl (by kernel_rfl)]
    rw [runAll_go (n := 5) (l := [111, 118, 101, 114]) (S' := [x, z, y, z]) (R' := []) (out' := []) rfl (by kernel_rfl)]
    rw [runAll_go (n := 4) (l := [43]) (S' := [x, z, wrap64 (y + z)]) (R' := []) (out' := []) rfl (by kernel_rfl)]
    rw [runAll_go (n := 3) (l := [43]) (S' := [x, wrap64 (z + wrap64 (y + z))]) (R' := []) (out' := []) rfl (by kernel_rfl)]
    rw [runAll_go (n := 2) (l := [45]) (S' := [wrap64 (x - wrap64 (z + wrap64 (y + z)))]) (R' := []) (out' := []) rfl (by kernel_rfl)]
    exact run_end (in_wrap _) (by omega) rfl rfl

theorem line_5 (x y z : Int) (hx : -1000000000000000000 < x ∧ x < 1000000000000000000) (hy : -1000000000000000000 < y ∧ y < 1000000000000000000) (hz : -1000000000000000000 < z ∧ z < 1000000000000000000) :
    LineOk x y z [62, 114, 32, 115, 119, 97, 112, 32, 114, 62, 32, 42, 32, 45, 32, 100, 117, 112, 32, 46] (wrap64 (y - wrap64 (x * z))) := by
  have hs : split [62, 114, 32, 115, 119, 97, 112, 32, 114, 62, 32, 42, 32, 45, 32, 100, 117, 112, 32, 46] = [[62, 114], [115, 119, 97, 112], [114, 62], [42], [45], [100, 117, 112], [46]] := by kernel_rfl
  refine ⟨⟨10, ?_⟩, plain3 hx hy hz hs (by kernel_rfl), in_wrap _⟩
  · have hsp := split_line3 x y z [62, 114, 32, 115, 119, 97, 112, 32, 114, 62, 32, 42, 32, 45, 32, 100, 117, 112, 32, 46]
    rw [hs] at hsp
    rw [hsp]
    show runAll (7 + 1 + 1 + 1) _ = _
    rw [run_three hx hy hz rfl rfl rfl]
    rw [runAll_go (n := 6) (l := [62, 114]) (S' := [x, y]) (R' := [z]) (out' := []) rfl (by kernel_rfl)]
    rw [runAll_go (n := 5) (l := [115, 119, 97, 112]) (S' := [y, x]) (R' := [z]) (out' := []) rfl (by kernel_rfl)]
    rw [runAll_go (n := 4) (l := [114, 62]) (S' := [y, x, z]) (R' := []) (out' := []) rfl (by kernel_rfl)]
    rw [runAll_go (n := 3) (l := [42]) (S' := [y, wrap64 (x * z)]) (R' := []) (out' := []) rfl (by kernel_rfl)]
    rw [runAll_go (n := 2) (l := [45]) (S' := [wrap64 (y - wrap64 (x * z))]) (R' := []) (out' := []) rfl (by kernel_rfl)]
    exact run_end (in_wrap _) (by omega) rfl rfl

end L
end Go.Proofs.YthpcapohfjidoaaDoor
