/-
  The reader's Bytes and Open as a caller meets them.
-/
import Derived.Test.YtneppkbbnajpnaaS
namespace Go.Proofs.Ytneppkbbnajpnaa
open Go.RowKit

theorem whole48_any (b bx : Nat) (L : List UInt8) (most : Int) (w : World) (hr : Rd w b L) (hbx : w.cell? ⟨bx, 0, none⟩ = some (.int .i64 most)) (hm : most ≤ 9223372036854775807) (hsz : L.length ≤ 140737488355328) :
    Calls Try.prog 48 #[.pointer (some ⟨b, 0, none⟩), .func (.func 49) #[] #[.pointer (some ⟨bx, 0, none⟩)]] w fun e w' => ∃ v, e = .returned (.tuple #[v, .int .i64 (rdBytes L most).2.1]) ∧ OkPost b (rdBytes L most).1 (rdBytes L most).2.2 w v w' := by
  obtain ⟨s, hr, hs⟩ := hr
  obtain ⟨ao, cap, rfl⟩ := hs.shape
  have hbx2 : ∀ x, (w.alloc x).cell? ⟨bx, 0, none⟩ = some (.int .i64 most) := fun x => (World.grownBy_alloc w x none).cell hbx (by simp)
  have bad : ∀ er : Int, er ≠ 0 → Calls Try.prog 49 #[.pointer (some ⟨b, 0, none⟩), .pointer (some ⟨bx, 0, none⟩)] (w.alloc (.cells #[.bool true, .slice ao L.length cap] 73)) (ErrPost b er (w.alloc (.cells #[.bool true, .slice ao L.length cap] 73))) →
      Calls Try.prog 48 #[.pointer (some ⟨b, 0, none⟩), .func (.func 49) #[] #[.pointer (some ⟨bx, 0, none⟩)]] w fun e w' => ∃ v, e = .returned (.tuple #[v, .int .i64 er]) ∧ OkPost b [] L w v w' := by
    intro er her hC
    refine (whole48_err (.pointer (some ⟨bx, 0, none⟩)) b ao L.length cap er w hr her hC).mono ?_
    rintro e w' ⟨rfl, h1, h2⟩
    exact ⟨_, rfl, Own.nil _ _, ⟨_, h1, hs.grownR hr h2⟩, h2⟩
  by_cases hneg : most < 0
  · rw [rdBytes_neg hneg]
    exact bad 2 (by decide) (bytes49_neg b bx _ most _ (rdb_alloc hr _) (hbx2 _) hneg)
  · have h0 : 0 ≤ most := by omega
    cases hn : scan 0 0 L with
    | none =>
      rw [rdBytes_none h0 hn]
      exact bad 4 (by decide) (bytes49_none b bx _ L most _ (rdb_alloc hr _) (seg_alloc hs _) (hbx2 _) h0 hn)
    | some x =>
      obtain ⟨n, k⟩ := x
      by_cases hl : most < (n : Int)
      · rw [rdBytes_long h0 hn hl]
        exact bad 3 (by decide) (bytes49_long b bx _ L n k most _ (rdb_alloc hr _) (seg_alloc hs _) (hbx2 _) h0 hm hn hl)
      · by_cases hf : (L.drop k).length < n
        · rw [rdBytes_few h0 hn hl hf]
          exact bad 4 (by decide) (bytes49_few b bx _ L n k most _ (rdb_alloc hr _) (seg_alloc hs _) (hbx2 _) h0 hm hn hl hf)
        · rw [rdBytes_ok h0 hn hl hf]
          refine (whole48_ok (.pointer (some ⟨bx, 0, none⟩)) b ao L.length cap w (fun v w' => OkPost b ((L.drop k).take n) ((L.drop k).drop n) w v w') hr ((bytes49_ok b bx _ L n k most _ (rdb_alloc hr _) (seg_alloc hs _) (hbx2 _) h0 hm hn hl hf hsz).mono ?_))
          rintro e w2 ⟨v, rfl, h1, h2, h3⟩
          exact ⟨v, rfl, h1.mono (World.grownBy_alloc w (.cells #[.bool true, .slice ao L.length cap] 73) none).size, h2, grown_trans (World.grownBy_alloc w _ _) h3⟩

set_option maxHeartbeats 400000 in
theorem bytes27_nil (most : Int) (w : World) : Calls Try.prog 27 #[.pointer none, .int .i64 most] w fun e w' => e = .returned (.tuple #[.slice none 0 0, .int .i64 1]) ∧ w.grownBy w' none := by
  go_enter Try.func27, Try.ntmps27
  go_wp2_with fail
  refine (whole48_nil _ _).mono ?_
  rintro e w' ⟨rfl, he⟩
  subst he
  go_wp2_with fail
  go_ret2
  exact ⟨rfl, World.grownBy_alloc _ _ _⟩

set_option maxHeartbeats 400000 in
theorem bytes27_zero (b : Nat) (s : Value) (most : Int) (w : World) (hr : RdB w b false s) : Calls Try.prog 27 #[.pointer (some ⟨b, 0, none⟩), .int .i64 most] w fun e w' => e = .returned (.tuple #[.slice none 0 0, .int .i64 1]) ∧ w.grownBy w' none := by
  go_enter Try.func27, Try.ntmps27
  go_wp2_with fail
  refine (whole48_zero b s _ _ (rdb_alloc hr _)).mono ?_
  rintro e w' ⟨rfl, he⟩
  subst he
  go_wp2_with fail
  go_ret2
  exact ⟨rfl, World.grownBy_alloc _ _ _⟩

set_option maxHeartbeats 400000 in
theorem bytes27 (b : Nat) (L : List UInt8) (most : Int) (w : World) (hr : Rd w b L) (hm : most ≤ 9223372036854775807) (hsz : L.length ≤ 140737488355328) :
    Calls Try.prog 27 #[.pointer (some ⟨b, 0, none⟩), .int .i64 most] w fun e w' => ∃ v, e = .returned (.tuple #[v, .int .i64 (rdBytes L most).2.1]) ∧ OkPost b (rdBytes L most).1 (rdBytes L most).2.2 w v w' := by
  have hr1 : Rd (w.alloc (.cells #[.int .i64 most] 3)) b L := by
    obtain ⟨s, h1, h2⟩ := hr
    exact ⟨s, rdb_alloc h1 _, seg_alloc h2 _⟩
  have HC : Hid _ := whole48_any b w.heap.size L most _ hr1 (by simp) hm hsz
  clear hr hr1 hsz
  go_enter Try.func27, Try.ntmps27
  go_wp2_with fail
  refine Calls.mono HC.out ?_
  rintro e w' ⟨v, rfl, h1, h2, h3⟩
  have F : Hid (OkPost b (rdBytes L most).1 (rdBytes L most).2.2 w v w') := ⟨h1.mono (by simp), h2, grown_trans (World.grownBy_alloc w _ _) h3⟩
  clear h1 h2 h3
  go_wp2_with fail
  go_ret2
  exact ⟨_, rfl, F.out⟩

set_option maxHeartbeats 400000 in
theorem open19 (v : Value) (L : List UInt8) (w : World) (hs : Seg w v L) (hsz : L.length ≤ 225179981368000) :
    Calls Try.prog 19 #[v] w fun e w' => ∃ b, e = .returned (.pointer (some ⟨b, 0, none⟩)) ∧ w.heap.size ≤ b ∧ Rd w' b L ∧ w.grownBy w' none := by
  have HC : Hid _ := clone_any v L w hs hsz
  clear hs hsz
  go_enter Try.func19, Try.ntmps19
  go_wp2_with fail
  refine Calls.mono HC.out ?_
  rintro e w1 ⟨u, rfl, h1, h2⟩
  obtain ⟨ao, cap, rfl⟩ := h1.seg.shape
  have F : Hid (Rd (w1.alloc (.cells #[.bool true, .slice ao L.length cap] 73)) w1.heap.size L) := ⟨_, heap_alloc_new w1 _, seg_alloc h1.seg _⟩
  have G : Hid _ := h2
  clear h1 h2 HC
  go_wp2_with fail
  go_ret
  exact ⟨w1.heap.size, rfl, G.out.size, F.out, grown_trans G.out (World.grownBy_alloc _ _ _)⟩
end Go.Proofs.Ytneppkbbnajpnaa
