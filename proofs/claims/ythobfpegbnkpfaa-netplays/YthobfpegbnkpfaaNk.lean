/-
  NetPlays: words for its walk in pieces: code by its place, slots by their numbers.
-/
import Derived.Test.YthobfpegbnkpfaaSM
import Derived.Test.YthobfpegbnkpfaaSK
import Derived.Test.YthobfpegbnkpfaaNj
namespace Go.Proofs.Ythobfpegbnkpfaa
open Go.RowKit Disk S

theorem ut25 : Try.prog.underlying 25 = some (.slice 9) := by kernel_rfl
theorem sz9 (w : World) : (sizeOf 9).run Try.prog w = .ok 1 w := by kernel_rfl
theorem info9 : (Try.prog.info? 9).map (fun i => (i.zero, i.size, i.bytes)) = some (some (.string ⟨#[]⟩), 1, 16) := by kernel_rfl
set_option maxRecDepth 100000 in
set_option maxHeartbeats 400000 in
theorem pred13 (sb : Nat) (kd nn : Int) (u : Value) (x : ByteArray) (w : World) (hb : Blk w sb 27 #[.int .i64 kd, .int .i64 nn, u]) : Calls Try.prog 13 #[.string x, .pointer (some ⟨sb, 0, none⟩)] w fun e w' => e = .returned (.bool (decide (nn < (x.size : Int)))) ∧ w.grownBy w' none := by
  have c1 := hb.cell 1
  simp at c1
  clear hb
  go_enter Try.func13, Try.ntmps13
  go_wp2
  go_ret
  exact ⟨rfl, grown_refl _ _⟩

/-- The things on the way, as a list. -/
def tvs (q : List Pcl) : List Value := q.map fun a => Value.string a.t
theorem tvs_one (q : List Pcl) : ∀ x ∈ tvs q, x.oneCell' = true := by
  intro x hx
  obtain ⟨a, _, rfl⟩ := List.mem_map.1 hx
  rfl
theorem strs_one (ts : List ByteArray) : ∀ x ∈ ts.map Value.string, x.oneCell' = true := by
  intro x hx
  obtain ⟨a, _, rfl⟩ := List.mem_map.1 hx
  rfl
theorem tvs_len (q : List Pcl) : (tvs q).length = q.length := by simp [tvs]
/-- What stands at the head of the loop over the steps. -/
structure Ply (w wr : World) (b : Nat) (v4 : Value) (s : Int) (i : Nat) (v : Value) (q : List Pcl) : Prop where
  mine : Mine w wr b v q s
  row : Row 9 wr w.heap.size v4 (tvs q)
  num : s ≤ 65536 * (i : Int)
theorem Ply.grown {w w1 w2 : World} {b i : Nat} {v4 v : Value} {s : Int} {q : List Pcl} (h : Ply w w1 b v4 s i v q) (hg : w1.grownBy w2 none) : Ply w w2 b v4 s i v q := ⟨h.mine.grown hg, h.row.grown hg, h.num⟩
theorem Ply.more {w w1 : World} {b i : Nat} {v4 v : Value} {s : Int} {q : List Pcl} (h : Ply w w1 b v4 s i v q) : Ply w w1 b v4 s (i + 1) v q := ⟨h.mine, h.row, by have := h.num; omega⟩
theorem Ply.sl {w w1 : World} {b i : Nat} {v4 v : Value} {s : Int} {q : List Pcl} (h : Ply w w1 b v4 s i v q) : ∃ ao cap, v4 = .slice ao q.length cap := by
  obtain ⟨ao, cap, e⟩ := h.row.sl
  rw [tvs_len] at e
  exact ⟨ao, cap, e⟩

/-- Parts of a piece of code. -/
def cL : Code → Code | .seq a _ => a | c => c
def cR : Code → Code | .seq _ b => b | c => c
def cB : Code → Code | .block _ c => c | c => c
def cW : Code → Code | .loop c => c | c => c
/-- The round of the loop over the steps, and its switch. -/
noncomputable def rnd3 : Code := cW (cB (cR (cL (cR (cR (cR (cR (cR (Try.f3.body.getD .skip)))))))))
noncomputable def sw3 : Code := cR (cL (cR (cR (cB (cL (cR rnd3))))))

/-- A slot's value. -/
def sl (t : Array Value) (k : Nat) : Value := t.getD k undef
set_option maxRecDepth 100000 in
theorem t278 (t : Array Value) (h : t.size = 278) : t = #[sl t 0, sl t 1, sl t 2, sl t 3, sl t 4, sl t 5, sl t 6, sl t 7, sl t 8, sl t 9, sl t 10, sl t 11, sl t 12, sl t 13, sl t 14, sl t 15, sl t 16, sl t 17, sl t 18, sl t 19, sl t 20, sl t 21, sl t 22, sl t 23, sl t 24, sl t 25, sl t 26, sl t 27, sl t 28, sl t 29, sl t 30, sl t 31, sl t 32, sl t 33, sl t 34, sl t 35, sl t 36, sl t 37, sl t 38, sl t 39, sl t 40, sl t 41, sl t 42, sl t 43, sl t 44, sl t 45, sl t 46, sl t 47, sl t 48, sl t 49, sl t 50, sl t 51, sl t 52, sl t 53, sl t 54, sl t 55, sl t 56, sl t 57, sl t 58, sl t 59, sl t 60, sl t 61, sl t 62, sl t 63, sl t 64, sl t 65, sl t 66, sl t 67, sl t 68, sl t 69, sl t 70, sl t 71, sl t 72, sl t 73, sl t 74, sl t 75, sl t 76, sl t 77, sl t 78, sl t 79, sl t 80, sl t 81, sl t 82, sl t 83, sl t 84, sl t 85, sl t 86, sl t 87, sl t 88, sl t 89, sl t 90, sl t 91, sl t 92, sl t 93, sl t 94, sl t 95, sl t 96, sl t 97, sl t 98, sl t 99, sl t 100, sl t 101, sl t 102, sl t 103, sl t 104, sl t 105, sl t 106, sl t 107, sl t 108, sl t 109, sl t 110, sl t 111, sl t 112, sl t 113, sl t 114, sl t 115, sl t 116, sl t 117, sl t 118, sl t 119, sl t 120, sl t 121, sl t 122, sl t 123, sl t 124, sl t 125, sl t 126, sl t 127, sl t 128, sl t 129, sl t 130, sl t 131, sl t 132, sl t 133, sl t 134, sl t 135, sl t 136, sl t 137, sl t 138, sl t 139, sl t 140, sl t 141, sl t 142, sl t 143, sl t 144, sl t 145, sl t 146, sl t 147, sl t 148, sl t 149, sl t 150, sl t 151, sl t 152, sl t 153, sl t 154, sl t 155, sl t 156, sl t 157, sl t 158, sl t 159, sl t 160, sl t 161, sl t 162, sl t 163, sl t 164, sl t 165, sl t 166, sl t 167, sl t 168, sl t 169, sl t 170, sl t 171, sl t 172, sl t 173, sl t 174, sl t 175, sl t 176, sl t 177, sl t 178, sl t 179, sl t 180, sl t 181, sl t 182, sl t 183, sl t 184, sl t 185, sl t 186, sl t 187, sl t 188, sl t 189, sl t 190, sl t 191, sl t 192, sl t 193, sl t 194, sl t 195, sl t 196, sl t 197, sl t 198, sl t 199, sl t 200, sl t 201, sl t 202, sl t 203, sl t 204, sl t 205, sl t 206, sl t 207, sl t 208, sl t 209, sl t 210, sl t 211, sl t 212, sl t 213, sl t 214, sl t 215, sl t 216, sl t 217, sl t 218, sl t 219, sl t 220, sl t 221, sl t 222, sl t 223, sl t 224, sl t 225, sl t 226, sl t 227, sl t 228, sl t 229, sl t 230, sl t 231, sl t 232, sl t 233, sl t 234, sl t 235, sl t 236, sl t 237, sl t 238, sl t 239, sl t 240, sl t 241, sl t 242, sl t 243, sl t 244, sl t 245, sl t 246, sl t 247, sl t 248, sl t 249, sl t 250, sl t 251, sl t 252, sl t 253, sl t 254, sl t 255, sl t 256, sl t 257, sl t 258, sl t 259, sl t 260, sl t 261, sl t 262, sl t 263, sl t 264, sl t 265, sl t 266, sl t 267, sl t 268, sl t 269, sl t 270, sl t 271, sl t 272, sl t 273, sl t 274, sl t 275, sl t 276, sl t 277] := by
  have h1 : t.toList = (List.range 278).map (sl t) := by
    apply List.ext_getElem
    · simp [h]
    · intro i h1 h2
      simp [sl] at h1 ⊢
      rw [Array.getElem?_eq_getElem h1]
      rfl
  have h2 : (List.range 278).map (sl t) = [sl t 0, sl t 1, sl t 2, sl t 3, sl t 4, sl t 5, sl t 6, sl t 7, sl t 8, sl t 9, sl t 10, sl t 11, sl t 12, sl t 13, sl t 14, sl t 15, sl t 16, sl t 17, sl t 18, sl t 19, sl t 20, sl t 21, sl t 22, sl t 23, sl t 24, sl t 25, sl t 26, sl t 27, sl t 28, sl t 29, sl t 30, sl t 31, sl t 32, sl t 33, sl t 34, sl t 35, sl t 36, sl t 37, sl t 38, sl t 39, sl t 40, sl t 41, sl t 42, sl t 43, sl t 44, sl t 45, sl t 46, sl t 47, sl t 48, sl t 49, sl t 50, sl t 51, sl t 52, sl t 53, sl t 54, sl t 55, sl t 56, sl t 57, sl t 58, sl t 59, sl t 60, sl t 61, sl t 62, sl t 63, sl t 64, sl t 65, sl t 66, sl t 67, sl t 68, sl t 69, sl t 70, sl t 71, sl t 72, sl t 73, sl t 74, sl t 75, sl t 76, sl t 77, sl t 78, sl t 79, sl t 80, sl t 81, sl t 82, sl t 83, sl t 84, sl t 85, sl t 86, sl t 87, sl t 88, sl t 89, sl t 90, sl t 91, sl t 92, sl t 93, sl t 94, sl t 95, sl t 96, sl t 97, sl t 98, sl t 99, sl t 100, sl t 101, sl t 102, sl t 103, sl t 104, sl t 105, sl t 106, sl t 107, sl t 108, sl t 109, sl t 110, sl t 111, sl t 112, sl t 113, sl t 114, sl t 115, sl t 116, sl t 117, sl t 118, sl t 119, sl t 120, sl t 121, sl t 122, sl t 123, sl t 124, sl t 125, sl t 126, sl t 127, sl t 128, sl t 129, sl t 130, sl t 131, sl t 132, sl t 133, sl t 134, sl t 135, sl t 136, sl t 137, sl t 138, sl t 139, sl t 140, sl t 141, sl t 142, sl t 143, sl t 144, sl t 145, sl t 146, sl t 147, sl t 148, sl t 149, sl t 150, sl t 151, sl t 152, sl t 153, sl t 154, sl t 155, sl t 156, sl t 157, sl t 158, sl t 159, sl t 160, sl t 161, sl t 162, sl t 163, sl t 164, sl t 165, sl t 166, sl t 167, sl t 168, sl t 169, sl t 170, sl t 171, sl t 172, sl t 173, sl t 174, sl t 175, sl t 176, sl t 177, sl t 178, sl t 179, sl t 180, sl t 181, sl t 182, sl t 183, sl t 184, sl t 185, sl t 186, sl t 187, sl t 188, sl t 189, sl t 190, sl t 191, sl t 192, sl t 193, sl t 194, sl t 195, sl t 196, sl t 197, sl t 198, sl t 199, sl t 200, sl t 201, sl t 202, sl t 203, sl t 204, sl t 205, sl t 206, sl t 207, sl t 208, sl t 209, sl t 210, sl t 211, sl t 212, sl t 213, sl t 214, sl t 215, sl t 216, sl t 217, sl t 218, sl t 219, sl t 220, sl t 221, sl t 222, sl t 223, sl t 224, sl t 225, sl t 226, sl t 227, sl t 228, sl t 229, sl t 230, sl t 231, sl t 232, sl t 233, sl t 234, sl t 235, sl t 236, sl t 237, sl t 238, sl t 239, sl t 240, sl t 241, sl t 242, sl t 243, sl t 244, sl t 245, sl t 246, sl t 247, sl t 248, sl t 249, sl t 250, sl t 251, sl t 252, sl t 253, sl t 254, sl t 255, sl t 256, sl t 257, sl t 258, sl t 259, sl t 260, sl t 261, sl t 262, sl t 263, sl t 264, sl t 265, sl t 266, sl t 267, sl t 268, sl t 269, sl t 270, sl t 271, sl t 272, sl t 273, sl t 274, sl t 275, sl t 276, sl t 277] := rfl
  rw [h2] at h1
  exact Array.toList_inj.1 h1
/-- What the loop keeps in its slots. -/
structure S3 (a : Act) (v0 x3 x4 x5 x6 : Value) : Prop where
  size : a.tmps.size = 278
  defers : a.defers = []
  e0 : sl a.tmps 0 = v0
  e3 : sl a.tmps 3 = x3
  e4 : sl a.tmps 4 = x4
  e5 : sl a.tmps 5 = x5
  e6 : sl a.tmps 6 = x6
theorem S3.eq {a : Act} {v0 x3 x4 x5 x6 : Value} (h : S3 a v0 x3 x4 x5 x6) : ∃ t : Array Value, a = { tmps := #[v0, sl t 1, sl t 2, x3, x4, x5, x6, sl t 7, sl t 8, sl t 9, sl t 10, sl t 11, sl t 12, sl t 13, sl t 14, sl t 15, sl t 16, sl t 17, sl t 18, sl t 19, sl t 20, sl t 21, sl t 22, sl t 23, sl t 24, sl t 25, sl t 26, sl t 27, sl t 28, sl t 29, sl t 30, sl t 31, sl t 32, sl t 33, sl t 34, sl t 35, sl t 36, sl t 37, sl t 38, sl t 39, sl t 40, sl t 41, sl t 42, sl t 43, sl t 44, sl t 45, sl t 46, sl t 47, sl t 48, sl t 49, sl t 50, sl t 51, sl t 52, sl t 53, sl t 54, sl t 55, sl t 56, sl t 57, sl t 58, sl t 59, sl t 60, sl t 61, sl t 62, sl t 63, sl t 64, sl t 65, sl t 66, sl t 67, sl t 68, sl t 69, sl t 70, sl t 71, sl t 72, sl t 73, sl t 74, sl t 75, sl t 76, sl t 77, sl t 78, sl t 79, sl t 80, sl t 81, sl t 82, sl t 83, sl t 84, sl t 85, sl t 86, sl t 87, sl t 88, sl t 89, sl t 90, sl t 91, sl t 92, sl t 93, sl t 94, sl t 95, sl t 96, sl t 97, sl t 98, sl t 99, sl t 100, sl t 101, sl t 102, sl t 103, sl t 104, sl t 105, sl t 106, sl t 107, sl t 108, sl t 109, sl t 110, sl t 111, sl t 112, sl t 113, sl t 114, sl t 115, sl t 116, sl t 117, sl t 118, sl t 119, sl t 120, sl t 121, sl t 122, sl t 123, sl t 124, sl t 125, sl t 126, sl t 127, sl t 128, sl t 129, sl t 130, sl t 131, sl t 132, sl t 133, sl t 134, sl t 135, sl t 136, sl t 137, sl t 138, sl t 139, sl t 140, sl t 141, sl t 142, sl t 143, sl t 144, sl t 145, sl t 146, sl t 147, sl t 148, sl t 149, sl t 150, sl t 151, sl t 152, sl t 153, sl t 154, sl t 155, sl t 156, sl t 157, sl t 158, sl t 159, sl t 160, sl t 161, sl t 162, sl t 163, sl t 164, sl t 165, sl t 166, sl t 167, sl t 168, sl t 169, sl t 170, sl t 171, sl t 172, sl t 173, sl t 174, sl t 175, sl t 176, sl t 177, sl t 178, sl t 179, sl t 180, sl t 181, sl t 182, sl t 183, sl t 184, sl t 185, sl t 186, sl t 187, sl t 188, sl t 189, sl t 190, sl t 191, sl t 192, sl t 193, sl t 194, sl t 195, sl t 196, sl t 197, sl t 198, sl t 199, sl t 200, sl t 201, sl t 202, sl t 203, sl t 204, sl t 205, sl t 206, sl t 207, sl t 208, sl t 209, sl t 210, sl t 211, sl t 212, sl t 213, sl t 214, sl t 215, sl t 216, sl t 217, sl t 218, sl t 219, sl t 220, sl t 221, sl t 222, sl t 223, sl t 224, sl t 225, sl t 226, sl t 227, sl t 228, sl t 229, sl t 230, sl t 231, sl t 232, sl t 233, sl t 234, sl t 235, sl t 236, sl t 237, sl t 238, sl t 239, sl t 240, sl t 241, sl t 242, sl t 243, sl t 244, sl t 245, sl t 246, sl t 247, sl t 248, sl t 249, sl t 250, sl t 251, sl t 252, sl t 253, sl t 254, sl t 255, sl t 256, sl t 257, sl t 258, sl t 259, sl t 260, sl t 261, sl t 262, sl t 263, sl t 264, sl t 265, sl t 266, sl t 267, sl t 268, sl t 269, sl t 270, sl t 271, sl t 272, sl t 273, sl t 274, sl t 275, sl t 276, sl t 277], defers := [] } := by
  obtain ⟨t, d⟩ := a
  obtain ⟨h1, h2, h3, h4, h5, h6, h7⟩ := h
  dsimp only at h1 h2 h3 h4 h5 h6 h7
  refine ⟨t, ?_⟩
  rw [h2]
  have e := t278 t h1
  rw [h3, h4, h5, h6, h7] at e
  exact congrArg (fun x => Act.mk x []) e
/-- The same, with the step's block, whether there is such a place, and the step's kind. -/
structure S4 (a : Act) (v0 x3 x4 x5 x6 x7 x8 x47 : Value) : Prop where
  s : S3 a v0 x3 x4 x5 x6
  e7 : sl a.tmps 7 = x7
  e8 : sl a.tmps 8 = x8
  e47 : sl a.tmps 47 = x47
theorem S4.eq {a : Act} {v0 x3 x4 x5 x6 x7 x8 x47 : Value} (h : S4 a v0 x3 x4 x5 x6 x7 x8 x47) : ∃ t : Array Value, a = { tmps := #[v0, sl t 1, sl t 2, x3, x4, x5, x6, x7, x8, sl t 9, sl t 10, sl t 11, sl t 12, sl t 13, sl t 14, sl t 15, sl t 16, sl t 17, sl t 18, sl t 19, sl t 20, sl t 21, sl t 22, sl t 23, sl t 24, sl t 25, sl t 26, sl t 27, sl t 28, sl t 29, sl t 30, sl t 31, sl t 32, sl t 33, sl t 34, sl t 35, sl t 36, sl t 37, sl t 38, sl t 39, sl t 40, sl t 41, sl t 42, sl t 43, sl t 44, sl t 45, sl t 46, x47, sl t 48, sl t 49, sl t 50, sl t 51, sl t 52, sl t 53, sl t 54, sl t 55, sl t 56, sl t 57, sl t 58, sl t 59, sl t 60, sl t 61, sl t 62, sl t 63, sl t 64, sl t 65, sl t 66, sl t 67, sl t 68, sl t 69, sl t 70, sl t 71, sl t 72, sl t 73, sl t 74, sl t 75, sl t 76, sl t 77, sl t 78, sl t 79, sl t 80, sl t 81, sl t 82, sl t 83, sl t 84, sl t 85, sl t 86, sl t 87, sl t 88, sl t 89, sl t 90, sl t 91, sl t 92, sl t 93, sl t 94, sl t 95, sl t 96, sl t 97, sl t 98, sl t 99, sl t 100, sl t 101, sl t 102, sl t 103, sl t 104, sl t 105, sl t 106, sl t 107, sl t 108, sl t 109, sl t 110, sl t 111, sl t 112, sl t 113, sl t 114, sl t 115, sl t 116, sl t 117, sl t 118, sl t 119, sl t 120, sl t 121, sl t 122, sl t 123, sl t 124, sl t 125, sl t 126, sl t 127, sl t 128, sl t 129, sl t 130, sl t 131, sl t 132, sl t 133, sl t 134, sl t 135, sl t 136, sl t 137, sl t 138, sl t 139, sl t 140, sl t 141, sl t 142, sl t 143, sl t 144, sl t 145, sl t 146, sl t 147, sl t 148, sl t 149, sl t 150, sl t 151, sl t 152, sl t 153, sl t 154, sl t 155, sl t 156, sl t 157, sl t 158, sl t 159, sl t 160, sl t 161, sl t 162, sl t 163, sl t 164, sl t 165, sl t 166, sl t 167, sl t 168, sl t 169, sl t 170, sl t 171, sl t 172, sl t 173, sl t 174, sl t 175, sl t 176, sl t 177, sl t 178, sl t 179, sl t 180, sl t 181, sl t 182, sl t 183, sl t 184, sl t 185, sl t 186, sl t 187, sl t 188, sl t 189, sl t 190, sl t 191, sl t 192, sl t 193, sl t 194, sl t 195, sl t 196, sl t 197, sl t 198, sl t 199, sl t 200, sl t 201, sl t 202, sl t 203, sl t 204, sl t 205, sl t 206, sl t 207, sl t 208, sl t 209, sl t 210, sl t 211, sl t 212, sl t 213, sl t 214, sl t 215, sl t 216, sl t 217, sl t 218, sl t 219, sl t 220, sl t 221, sl t 222, sl t 223, sl t 224, sl t 225, sl t 226, sl t 227, sl t 228, sl t 229, sl t 230, sl t 231, sl t 232, sl t 233, sl t 234, sl t 235, sl t 236, sl t 237, sl t 238, sl t 239, sl t 240, sl t 241, sl t 242, sl t 243, sl t 244, sl t 245, sl t 246, sl t 247, sl t 248, sl t 249, sl t 250, sl t 251, sl t 252, sl t 253, sl t 254, sl t 255, sl t 256, sl t 257, sl t 258, sl t 259, sl t 260, sl t 261, sl t 262, sl t 263, sl t 264, sl t 265, sl t 266, sl t 267, sl t 268, sl t 269, sl t 270, sl t 271, sl t 272, sl t 273, sl t 274, sl t 275, sl t 276, sl t 277], defers := [] } := by
  obtain ⟨t, d⟩ := a
  obtain ⟨⟨h1, h2, h3, h4, h5, h6, h7⟩, h8, h9, h10⟩ := h
  dsimp only at h1 h2 h3 h4 h5 h6 h7 h8 h9 h10
  refine ⟨t, ?_⟩
  rw [h2]
  have e := t278 t h1
  rw [h3, h4, h5, h6, h7, h8, h9, h10] at e
  exact congrArg (fun x => Act.mk x []) e
/-- How a step ends. -/
def Ok3 (w : World) (b : Nat) (v0 : Value) (i : Nat) (a : Act) (wc : World) : Prop := ∃ (x4 : Value) (s2 : Int) (v2 : Value) (q2 : List Pcl), S3 a v0 (.pointer (some ⟨b, 0, none⟩)) x4 (.int .i64 s2) (.int .i64 (i : Nat)) ∧ Ply w wc b x4 s2 (i + 1) v2 q2
def Sw3 (w : World) (b : Nat) (v0 : Value) (i : Nat) : Exit → Act → World → Prop
  | .normal, a, wc => Ok3 w b v0 i a wc
  | _, _, _ => False
/-- What a step finds. -/
structure Stp3 (w w7 : World) (b : Nat) (lo : Option Addr) (ql lc : Nat) (s : Int) (i : Nat) (v : Value) (q : List Pcl) (sb : Nat) (kd nn : Int) (uo : Option Addr) (un uc : Nat) (ts : List ByteArray) (th : Bool) : Prop where
  ply : Ply w w7 b (.slice lo ql lc) s i v q
  rd : Rd w (.slice uo un uc) (ts.map Value.string)
  blk : Blk w7 sb 27 #[.int .i64 kd, .int .i64 nn, .slice uo un uc]
  base : w.heap.size ≤ sb
  len : q.length = ql
  few : ql ≤ 65536
  low : 0 ≤ s
  top : s ≤ 100000000
  tl : ts.length = un
  tb : un * 16 ≤ 140737488351232
  lim : i < 400
  th : decide (0 ≤ nn ∧ nn < (ql : Int)) = th
  n1 : -9223372036854775808 ≤ nn
  n2 : nn ≤ 9223372036854775807
end Go.Proofs.Ythobfpegbnkpfaa
