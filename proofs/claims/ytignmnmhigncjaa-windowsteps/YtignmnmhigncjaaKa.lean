/-
  Some of the chapter's rows: known answers true.
-/
import Derived.Test.YtignmnmhigncjaaSH
namespace Go.Proofs.Ytignmnmhigncjaa
open Go.RowKit Disk S

set_option maxRecDepth 100000 in
set_option maxHeartbeats 400000 in
theorem num7 (k : Int) (w : World) : Calls Try.prog 7 #[.int .i64 k] w fun e w' => e = .returned (.int .i64 k) ∧ w' = w := by
  go_enter Try.func7, Try.ntmps7
  go_wp2
  go_ret
  exact ⟨rfl, rfl⟩

set_option maxRecDepth 100000 in
set_option maxHeartbeats 4000000 in
theorem known8 (w : World) : Calls Try.prog 8 #[] w fun e w' => e = .returned (.bool true) ∧ w.grownBy w' none := by
  go_enter Try.func8, Try.ntmps8
  go_wp2_with fail
  refine (new_win 2 w (by omega) (by omega)).mono ?_
  rintro e w1 ⟨b, v, rfl, hw, hg, hn⟩
  have M1 : Hid (Mine _ w w1 b v 2 [] 0) := ⟨hw, hg, hn⟩
  clear hw hg hn
  go_wp2_with fail
  refine (num7 0 w1).mono ?_
  rintro e w2 ⟨rfl, rfl⟩
  go_wp2_with fail
  refine (give_yes b v 2 [] 0 ⟨#[97]⟩ w2 M1.out.win (by simp)).mono ?_
  rintro e w3 (⟨h, _⟩ | ⟨_, rfl, hw, hf⟩)
  · simp at h
  have M2 : Hid (Mine _ w w3 b v 2 [some ⟨#[97]⟩] 0) := M1.out.to hw hf
  clear hw hf M1
  go_wp2_with fail
  refine (give_yes b v 2 [some ⟨#[97]⟩] 0 ⟨#[98]⟩ w3 M2.out.win (by simp)).mono ?_
  rintro e w4 (⟨h, _⟩ | ⟨_, rfl, hw, hf⟩)
  · simp at h
  have M3 : Hid (Mine _ w w4 b v 2 [some ⟨#[97]⟩, some ⟨#[98]⟩] 0) := M2.out.to hw hf
  clear hw hf M2
  go_wp2_with fail
  refine (give_yes b v 2 [some ⟨#[97]⟩, some ⟨#[98]⟩] 0 ⟨#[99]⟩ w4 M3.out.win (by simp)).mono ?_
  rintro e w5 (⟨_, rfl, hw, hf⟩ | ⟨h, _⟩)
  rotate_left
  · simp at h
  have M4 : Hid (Mine _ w w5 b v 2 [some ⟨#[97]⟩, some ⟨#[98]⟩] 0) := M3.out.to hw hf
  clear hw hf M3
  go_wp2_with fail
  refine (back_yes b v 2 [some ⟨#[97]⟩, some ⟨#[98]⟩] 2 w5 M4.out.win (by simp)).mono ?_
  rintro e w6 ⟨rfl, hw, hf⟩
  have M5 : Hid (Mine _ w w6 b v 2 [some ⟨#[97]⟩, none] 0) := M4.out.to hw hf
  clear hw hf M4
  rw [show getD [some ⟨#[97]⟩, some ⟨#[98]⟩] 2 = (⟨#[98]⟩, 0) from rfl]
  go_wp2_with fail
  refine (mark_yes b v 2 _ 0 w6 M5.out.win).mono ?_
  rintro e w7 ⟨rfl, rfl⟩
  go_wp2_with fail
  refine (back_yes b v 2 [some ⟨#[97]⟩, none] 2 w7 M5.out.win (by simp)).mono ?_
  rintro e w8 ⟨rfl, hw, hf⟩
  have M6 : Hid (Mine _ w w8 b v 2 [some ⟨#[97]⟩, none] 0) := M5.out.to hw hf
  clear hw hf M5
  rw [show getD [some ⟨#[97]⟩, none] 2 = (⟨#[]⟩, 5) from rfl]
  go_wp2_with fail
  refine (give_yes b v 2 [some ⟨#[97]⟩, none] 0 ⟨#[99]⟩ w8 M6.out.win (by simp)).mono ?_
  rintro e w9 (⟨_, rfl, hw, hf⟩ | ⟨h, _⟩)
  rotate_left
  · simp at h
  have M7 : Hid (Mine _ w w9 b v 2 [some ⟨#[97]⟩, none] 0) := M6.out.to hw hf
  clear hw hf M6
  go_wp2_with fail
  refine (back_yes b v 2 [some ⟨#[97]⟩, none] 1 w9 M7.out.win (by simp)).mono ?_
  rintro e wa ⟨rfl, hw, hf⟩
  have M8 : Hid (Mine _ w wa b v 2 [none, none] 2) := M7.out.to hw hf
  clear hw hf M7
  rw [show getD [some ⟨#[97]⟩, none] 1 = (⟨#[97]⟩, 0) from rfl]
  go_wp2_with fail
  refine (num7 _ wa).mono ?_
  rintro e wb ⟨rfl, rfl⟩
  go_wp2_with fail
  refine (num7 _ wb).mono ?_
  rintro e wc ⟨rfl, rfl⟩
  go_wp2_with fail
  refine (num7 _ wc).mono ?_
  rintro e wd ⟨rfl, rfl⟩
  go_wp2_with fail
  refine (mark_yes b v 2 _ 2 wd M8.out.win).mono ?_
  rintro e we ⟨rfl, rfl⟩
  go_wp2_with fail
  refine (room_yes b v 2 _ 2 we M8.out.win (by simp)).mono ?_
  rintro e wf ⟨rfl, hg⟩
  have H : Hid (w.grownBy wf none) := grown_trans M8.out.gr hg
  clear hg
  go_wp2_with fail
  go_ret
  exact ⟨rfl, H.out⟩
end Go.Proofs.Ytignmnmhigncjaa
