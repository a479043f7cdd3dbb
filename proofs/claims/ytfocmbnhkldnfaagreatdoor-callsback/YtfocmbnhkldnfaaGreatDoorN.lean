/-
  Calls are read.
-/
import Derived.Test.YtfocmbnhkldnfaaGreatDoorM
namespace Go.Proofs.YtfocmbnhkldnfaaGreatDoor
open Go.RowKit Disk
open Names (Str)
open Wire (RdB RdG)

/-- What a list's reading is told as. -/
abbrev OpsTold (w : World) (l : List POp) (v : Value) (w' : World) : Prop := ∃ u, v = .tuple #[u, .int .i64 0] ∧ OpsOwn w' w.heap.size u l
/-- A list's reading within: it is told, or an error is, or it is given up. -/
def TkPost (b : Nat) (w : World) (r : Option (List POp × Bs)) (e : Ending) (w' : World) : Prop :=
  RdPost b w r (OpsTold w) e w' ∨ (r = none ∧ (∃ u er, e = .returned (.tuple #[u, .int .i64 er]) ∧ (er != 0) = true) ∧ (∃ s2, Blk w' b 167 #[.bool true, s2]) ∧ w.grownBy w' (some b))

theorem pMany_le {most n : Nat} {L M : Bs} (h : pNum most L = some (n, M)) : pList pOp most L = pMany pOp n M := by unfold pList; rw [h]; rfl
theorem pList_no {most : Nat} {L : Bs} (h : pNum most L = none) : pList pOp most L = none := by unfold pList; rw [h]; rfl

set_option maxRecDepth 100000 in
set_option maxHeartbeats 2000000 in
theorem take168 (b m f g : Nat) (L : Bs) (most : Nat) (w : World) (hm : most ≤ 100) (hz : L.length ≤ 140737488355328) (hr : RR w b L) (hmc : w.cell? ⟨m, 0, none⟩ = some (.int .i64 most)) (hgc : Blk w g 171 #[.func (.func 134) #[] #[.pointer (some ⟨f, 0, none⟩)]]) (hf : Blk w f 129 #[.func (.func 89) #[] #[]]) :
    Calls Tryz.prog 168 #[.pointer (some ⟨b, 0, none⟩), .pointer (some ⟨m, 0, none⟩), .pointer (some ⟨g, 0, none⟩)] w (TkPost b w (pList pOp most L)) := by
  have HR : Hid (RR w b L ∧ Blk w f 129 #[.func (.func 89) #[] #[]] ∧ Blk w g 171 #[.func (.func 134) #[] #[.pointer (some ⟨f, 0, none⟩)]]) := ⟨hr, hf, hgc⟩
  have hfb : f ≠ b := hr.ne hf (by decide)
  have hgb : g ≠ b := hr.ne hgc (by decide)
  clear hr hf hgc
  go_enter Tryz.func168, Tryz.ntmps168
  go_wp2_with (go_at_call 169; refine (count169 b L most _ (by omega) HR.out.1).mono ?_)
  rintro e w1 (⟨n, M, hx, rfl, hn, hR, hg⟩ | ⟨er, hx, her, rfl, hs2, hg⟩)
  · have HF : Hid (Blk w1 f 129 #[.func (.func 89) #[] #[]]) := HR.out.2.1.grown hg (fun e => hfb (by simpa using e.symm))
    have hgc := (HR.out.2.2.grown hg (fun e => hgb (by simpa using e.symm))).cell 0
    have HN : Hid (pNum most L = some (n, M) ∧ RR w1 b M ∧ w.grownBy w1 (some b)) := ⟨hx, hR, hg⟩
    have hzM := pOp_len hx
    clear hx hR hg
    go_wp2_with (go_at_call 170; refine (things170 b f n M _ (by omega) (by omega) HN.out.2.1 HF.out).mono ?_)
    intro e w2 h
    rcases h.symm with ⟨hx, rfl, hg2⟩ | ⟨l, M2, v, hx, rfl, ⟨u, rfl, ho⟩, hR2, hg2⟩
    · have F : Hid (pList pOp most L = none ∧ w.grownBy w2 (some b)) := ⟨by rw [pMany_le HN.out.1, hx], grown_trans HN.out.2.2 hg2⟩
      clear hx hg2 h
      unfold Pan
      go_wp2_with fail
      exact ⟨rfl, .inl (.inr ⟨F.out.1, rfl, F.out.2⟩)⟩
    clear h
    have F : Hid (pList pOp most L = some (l, M2) ∧ OpsOwn w2 w.heap.size u l ∧ RR w2 b M2 ∧ w.grownBy w2 (some b)) := ⟨by rw [pMany_le HN.out.1, hx], ho.mono HN.out.2.2.size, hR2, grown_trans HN.out.2.2 hg2⟩
    clear hx ho hR2 hg2
    go_wp2_with fail
    go_ret2
    exact .inl (.inl ⟨l, M2, _, F.out.1, rfl, ⟨_, rfl, F.out.2.1⟩, F.out.2.2.1, F.out.2.2.2⟩)
  · have F : Hid (pList pOp most L = none ∧ (er != 0) = true ∧ (∃ s2, Blk w1 b 167 #[.bool true, s2]) ∧ w.grownBy w1 (some b)) := ⟨pList_no hx, her, hs2, hg⟩
    clear hx hs2 hg
    go_wp2_with fail
    go_ret2
    exact .inr ⟨F.out.1, ⟨_, _, rfl, F.out.2.1⟩, F.out.2.2.1, F.out.2.2.2⟩

set_option maxRecDepth 100000 in
set_option maxHeartbeats 2000000 in
theorem whole167 (b m f g : Nat) (L : Bs) (most : Nat) (w : World) (hm : most ≤ 100) (hz : L.length ≤ 140737488355328) (hr : RR w b L) (hmc : w.cell? ⟨m, 0, none⟩ = some (.int .i64 most)) (hgc : Blk w g 171 #[.func (.func 134) #[] #[.pointer (some ⟨f, 0, none⟩)]]) (hf : Blk w f 129 #[.func (.func 89) #[] #[]]) :
    Calls Tryz.prog 167 #[.pointer (some ⟨b, 0, none⟩), .func (.func 168) #[] #[.pointer (some ⟨m, 0, none⟩), .pointer (some ⟨g, 0, none⟩)]] w fun e w' => RdPost b w (pList pOp most L) (OpsTold w) e w' ∨ (pList pOp most L = none ∧ (∃ u er, e = .returned (.tuple #[u, .int .i64 er]) ∧ (er != 0) = true) ∧ w.grownBy w' (some b)) := by
  have HR : Hid (RR w b L ∧ Blk w f 129 #[.func (.func 89) #[] #[]] ∧ Blk w g 171 #[.func (.func 134) #[] #[.pointer (some ⟨f, 0, none⟩)]] ∧ w.cell? ⟨m, 0, none⟩ = some (.int .i64 most)) := ⟨hr, hf, hgc, hmc⟩
  obtain ⟨s, hs, hseg, hk⟩ := hr
  obtain ⟨x0, y0, e0⟩ := hseg.shape
  obtain ⟨n0, hn0⟩ : ∃ n, n = L.length := ⟨_, rfl⟩
  rw [← hn0] at e0
  subst e0
  have c0 := hs.cell0
  have c1 := hs.cell1
  have hbl : b < w.heap.size := hs.lt
  have HS : Hid (RdB w b true (.slice x0 n0 y0)) := hs
  clear hgc hf hmc hseg hk hn0
  go_enter Tryz.func167, Tryz.ntmps167
  go_wp2_with (first | (go_at_call 130; refine (Wire.there_some b true _ _ HS.out).mono ?_; rintro e w1 ⟨rfl, hw1⟩; rw [hw1]; clear hw1) | (go_at_call 168; refine (take168 b m f g L most _ hm hz (HR.out.1.grown (World.grownBy_alloc _ _ none)) (grown_fun (World.grownBy_alloc _ _ none) HR.out.2.2.2) (HR.out.2.2.1.grown (World.grownBy_alloc _ _ none) (by simp)) (HR.out.2.1.grown (World.grownBy_alloc _ _ none) (by simp))).mono ?_))
  rintro e w1 (h | ⟨hx, ⟨u, er, rfl, her⟩, ⟨s2, hs2⟩, hg⟩)
  · rcases h.symm with ⟨hx, rfl, hg⟩ | ⟨l, M, v, hx, rfl, ⟨u, rfl, ho⟩, hR, hg⟩
    · have F : Hid (pList pOp most L = none ∧ w.grownBy w1 (some b)) := ⟨hx, grown_trans (World.grownBy_alloc _ _ _) hg⟩
      clear hx hg h
      unfold Pan
      go_wp2_with fail
      exact ⟨rfl, .inl (.inr ⟨F.out.1, rfl, F.out.2⟩)⟩
    · have F : Hid (pList pOp most L = some (l, M) ∧ OpsOwn w1 w.heap.size u l ∧ RR w1 b M ∧ w.grownBy w1 (some b)) := ⟨hx, ho.mono (by simp), hR, grown_trans (World.grownBy_alloc _ _ _) hg⟩
      clear hx ho hR hg h
      go_wp2_with fail
      go_ret2
      exact .inl (.inl ⟨l, M, _, F.out.1, rfl, ⟨_, rfl, F.out.2.1⟩, F.out.2.2.1, F.out.2.2.2⟩)
  · have F : Hid (pList pOp most L = none ∧ (er != 0) = true ∧ w.grownBy w1 (some b)) := ⟨hx, her, grown_trans (World.grownBy_alloc _ _ _) hg⟩
    have hw : Blk w1 w.heap.size 167 #[.bool true, .slice x0 n0 y0] := Blk.grown (heap_alloc_new w _) hg (fun e => by simp at e; omega)
    have d0 := hw.cell 0
    have d1 := hw.cell 1
    have b0 := hs2.cell 0
    have b1 := hs2.cell 1
    have z0 := hs2.free 0
    have z1 := hs2.free 1
    clear hx hg hw hs2
    go_wp2_with fail
    go_ret2
    exact .inr ⟨F.out.1, ⟨_, _, rfl, F.out.2.1⟩, grown_trans F.out.2.2 (grown_trans (grown_setCell _ _ _ _) (grown_setCell _ _ _ _))⟩

set_option maxRecDepth 100000 in
set_option maxHeartbeats 2000000 in
theorem take133 (b f : Nat) (L : Bs) (most : Nat) (w : World) (hm : most ≤ 100) (hz : L.length ≤ 140737488355328) (hr : RR w b L) (hf : Blk w f 129 #[.func (.func 89) #[] #[]]) :
    Calls Tryz.prog 133 #[.pointer (some ⟨b, 0, none⟩), .int .i64 most, .func (.func 134) #[] #[.pointer (some ⟨f, 0, none⟩)]] w fun e w' => RdPost b w (pList pOp most L) (OpsTold w) e w' ∨ (pList pOp most L = none ∧ (∃ u er, e = .returned (.tuple #[u, .int .i64 er]) ∧ (er != 0) = true) ∧ w.grownBy w' (some b)) := by
  have HR : Hid (RR w b L ∧ Blk w f 129 #[.func (.func 89) #[] #[]]) := ⟨hr, hf⟩
  have q1 := ne171
  have hmf : ∀ (fn : Fn) (first cap : Array Value) (w : World), (Instr.makeFunc fn first cap).run Tryz.prog w = .ok (.func fn first cap) w := fun _ _ _ _ => rfl
  clear hr hf
  have HB : Hid (Blk ((w.alloc (.cells #[.int .i64 most] 3)).alloc (.cells #[.func (.func 134) #[] #[.pointer (some ⟨f, 0, none⟩)]] 171)) (w.heap.size + 1) 171 #[.func (.func 134) #[] #[.pointer (some ⟨f, 0, none⟩)]]) := by
    have := heap_alloc_new (w.alloc (.cells #[.int .i64 most] 3)) (.cells #[.func (.func 134) #[] #[.pointer (some ⟨f, 0, none⟩)]] 171)
    simpa [Blk, Hid] using this
  go_enter Tryz.func133, Tryz.ntmps133
  go_wp2_with (go_at_call 167; refine (whole167 b w.heap.size f (w.heap.size + 1) L most _ hm hz (HR.out.1.grown (grown_trans (World.grownBy_alloc _ _ none) (World.grownBy_alloc _ _ none))) (by simp [go_sem]) HB.out (HR.out.2.grown (grown_trans (World.grownBy_alloc _ _ none) (World.grownBy_alloc _ _ none)) (by simp))).mono ?_)
  rintro e w1 (h | ⟨hx, ⟨u, er, rfl, her⟩, hg⟩)
  · rcases h.symm with ⟨hx, rfl, hg⟩ | ⟨l, M, v, hx, rfl, ⟨u, rfl, ho⟩, hR, hg⟩
    · have F : Hid (pList pOp most L = none ∧ w.grownBy w1 (some b)) := ⟨hx, grown_trans (grown_trans (World.grownBy_alloc _ _ _) (World.grownBy_alloc _ _ _)) hg⟩
      clear hx hg h
      unfold Pan
      go_wp2_with fail
      exact ⟨rfl, .inl (.inr ⟨F.out.1, rfl, F.out.2⟩)⟩
    · have F : Hid (pList pOp most L = some (l, M) ∧ OpsOwn w1 w.heap.size u l ∧ RR w1 b M ∧ w.grownBy w1 (some b)) := ⟨hx, ho.mono (by simp; omega), hR, grown_trans (grown_trans (World.grownBy_alloc _ _ _) (World.grownBy_alloc _ _ _)) hg⟩
      clear hx ho hR hg h
      go_wp2_with fail
      go_ret2
      exact .inl (.inl ⟨l, M, _, F.out.1, rfl, ⟨_, rfl, F.out.2.1⟩, F.out.2.2.1, F.out.2.2.2⟩)
  · have F : Hid (pList pOp most L = none ∧ (er != 0) = true ∧ w.grownBy w1 (some b)) := ⟨hx, her, grown_trans (grown_trans (World.grownBy_alloc _ _ _) (World.grownBy_alloc _ _ _)) hg⟩
    clear hx hg
    go_wp2_with fail
    go_ret2
    exact .inr ⟨F.out.1, ⟨_, _, rfl, F.out.2.1⟩, F.out.2.2⟩

set_option maxRecDepth 100000 in
set_option maxHeartbeats 2000000 in
theorem list132 (b m f : Nat) (L : Bs) (most : Nat) (w : World) (hm : most ≤ 100) (hz : L.length ≤ 140737488355328) (hr : RR w b L) (hmc : w.cell? ⟨m, 0, none⟩ = some (.int .i64 most)) (hf : Blk w f 129 #[.func (.func 89) #[] #[]]) :
    Calls Tryz.prog 132 #[.pointer (some ⟨b, 0, none⟩), .pointer (some ⟨m, 0, none⟩), .pointer (some ⟨f, 0, none⟩)] w fun e w' => RdPost b w (pList pOp most L) (OpsTold w) e w' ∨ (pList pOp most L = none ∧ (∃ u er, e = .returned (.tuple #[u, .int .i64 er]) ∧ (er != 0) = true) ∧ w.grownBy w' (some b)) := by
  have HR : Hid (RR w b L ∧ Blk w f 129 #[.func (.func 89) #[] #[]]) := ⟨hr, hf⟩
  have hmf : ∀ (fn : Fn) (first cap : Array Value) (w : World), (Instr.makeFunc fn first cap).run Tryz.prog w = .ok (.func fn first cap) w := fun _ _ _ _ => rfl
  clear hr hf
  go_enter Tryz.func132, Tryz.ntmps132
  go_wp2_with (go_at_call 133; refine (take133 b f L most _ hm hz HR.out.1 HR.out.2).mono ?_)
  rintro e w1 (h | ⟨hx, ⟨u, er, rfl, her⟩, hg⟩)
  · rcases h.symm with ⟨hx, rfl, hg⟩ | ⟨l, M, v, hx, rfl, ⟨u, rfl, ho⟩, hR, hg⟩
    · have F : Hid (pList pOp most L = none ∧ w.grownBy w1 (some b)) := ⟨hx, hg⟩
      clear hx hg h
      unfold Pan
      go_wp2_with fail
      exact ⟨rfl, .inl (.inr ⟨F.out.1, rfl, F.out.2⟩)⟩
    · have F : Hid (pList pOp most L = some (l, M) ∧ OpsOwn w1 w.heap.size u l ∧ RR w1 b M ∧ w.grownBy w1 (some b)) := ⟨hx, ho, hR, hg⟩
      clear hx ho hR hg h
      go_wp2_with fail
      go_ret2
      exact .inl (.inl ⟨l, M, _, F.out.1, rfl, ⟨_, rfl, F.out.2.1⟩, F.out.2.2.1, F.out.2.2.2⟩)
  · have F : Hid (pList pOp most L = none ∧ (er != 0) = true ∧ w.grownBy w1 (some b)) := ⟨hx, her, hg⟩
    clear hx hg
    go_wp2_with fail
    go_ret2
    exact .inr ⟨F.out.1, ⟨_, _, rfl, F.out.2.1⟩, F.out.2.2⟩

set_option maxRecDepth 100000 in
set_option maxHeartbeats 2000000 in
theorem next131 (b m f : Nat) (L : Bs) (most : Nat) (w : World) (hm : most ≤ 100) (hz : L.length ≤ 140737488355328) (hr : RR w b L) (hmc : w.cell? ⟨m, 0, none⟩ = some (.int .i64 most)) (hf : Blk w f 129 #[.func (.func 89) #[] #[]]) :
    Calls Tryz.prog 131 #[rdV b, .func (.func 132) #[] #[.pointer (some ⟨m, 0, none⟩), .pointer (some ⟨f, 0, none⟩)]] w (RdPost b w (pList pOp most L) (fun l v w' => OpsOwn w' w.heap.size v l)) := by
  have HR : Hid (RR w b L ∧ Blk w f 129 #[.func (.func 89) #[] #[]] ∧ w.cell? ⟨m, 0, none⟩ = some (.int .i64 most)) := ⟨hr, hf, hmc⟩
  clear hr hf hmc
  have e0 : rdV b = .agg #[.pointer (some ⟨b, 0, none⟩)] := rfl
  rw [e0]
  go_enter Tryz.func131, Tryz.ntmps131
  go_wp2_with (go_at_call 132; refine (list132 b m f L most _ hm hz (HR.out.1.grown (World.grownBy_alloc _ _ none)) (grown_fun (World.grownBy_alloc _ _ none) HR.out.2.2) (HR.out.2.1.grown (World.grownBy_alloc _ _ none) (by simp))).mono ?_)
  rintro e w1 (h | ⟨hx, ⟨u, er, rfl, her⟩, hg⟩)
  · rcases h.symm with ⟨hx, rfl, hg⟩ | ⟨l, M, v, hx, rfl, ⟨u, rfl, ho⟩, hR, hg⟩
    · have F : Hid (pList pOp most L = none ∧ w.grownBy w1 (some b)) := ⟨hx, grown_trans (World.grownBy_alloc _ _ _) hg⟩
      clear hx hg h
      unfold Pan
      go_wp2_with fail
      exact ⟨rfl, .inr ⟨F.out.1, rfl, F.out.2⟩⟩
    · have F : Hid (pList pOp most L = some (l, M) ∧ OpsOwn w1 w.heap.size u l ∧ RR w1 b M ∧ w.grownBy w1 (some b)) := ⟨hx, ho.mono (by simp), hR, grown_trans (World.grownBy_alloc _ _ _) hg⟩
      clear hx ho hR hg h
      go_wp2_with (go_at_call 55; refine (sure_yes _ _).mono ?_; rintro e w2 ⟨rfl, hw2⟩; rw [hw2]; clear hw2)
      go_ret
      exact .inl ⟨l, M, _, F.out.1, rfl, F.out.2.1, F.out.2.2.1, F.out.2.2.2⟩
  · have F : Hid (pList pOp most L = none ∧ w.grownBy w1 (some b)) := ⟨hx, grown_trans (World.grownBy_alloc _ _ _) hg⟩
    have q : (er == 0) = false := by simpa using her
    clear hx hg her
    go_wp2_with (go_at_call 55; refine (sure_no _ _).mono ?_; rintro e w2 ⟨rfl, hw2⟩; rw [hw2]; clear hw2; unfold Pan)
    exact ⟨rfl, .inr ⟨F.out.1, rfl, F.out.2⟩⟩

set_option maxRecDepth 100000 in
set_option maxHeartbeats 2000000 in
theorem list88 (b : Nat) (L : Bs) (most : Nat) (w : World) (hm : most ≤ 100) (hz : L.length ≤ 140737488355328) (hr : RR w b L) :
    Calls Tryz.prog 88 #[rdV b, .int .i64 most, .func (.func 89) #[] #[]] w (RdPost b w (pList pOp most L) (fun l v w' => OpsOwn w' w.heap.size v l)) := by
  have HR : Hid (RR w b L) := hr
  have hmf : ∀ (fn : Fn) (first cap : Array Value) (w : World), (Instr.makeFunc fn first cap).run Tryz.prog w = .ok (.func fn first cap) w := fun _ _ _ _ => rfl
  clear hr
  have e0 : rdV b = .agg #[.pointer (some ⟨b, 0, none⟩)] := rfl
  rw [e0]
  have HB : Hid (Blk (((w.alloc (.cells #[.pointer (some ⟨b, 0, none⟩)] 86)).alloc (.cells #[.int .i64 most] 3)).alloc (.cells #[.func (.func 89) #[] #[]] 129)) (w.heap.size + 1 + 1) 129 #[.func (.func 89) #[] #[]]) := by
    have := heap_alloc_new ((w.alloc (.cells #[.pointer (some ⟨b, 0, none⟩)] 86)).alloc (.cells #[.int .i64 most] 3)) (.cells #[.func (.func 89) #[] #[]] 129)
    simpa [Blk, Hid] using this
  go_enter Tryz.func88, Tryz.ntmps88
  go_wp2_with (go_at_call 131; refine (next131 b (w.heap.size + 1) (w.heap.size + 1 + 1) L most _ hm hz (HR.out.grown (grown3 _ _ _ _)) (by simp [go_sem]) HB.out).mono ?_)
  intro e w1 h
  rcases h.symm with ⟨hx, rfl, hg⟩ | ⟨l, M, v, hx, rfl, ho, hR, hg⟩
  · have F : Hid (pList pOp most L = none ∧ w.grownBy w1 (some b)) := ⟨hx, grown_trans (grown_weak (grown3 _ _ _ _) _) hg⟩
    clear hx hg h
    unfold Pan
    go_wp2_with fail
    exact ⟨rfl, .inr ⟨F.out.1, rfl, F.out.2⟩⟩
  · have F : Hid (pList pOp most L = some (l, M) ∧ OpsOwn w1 w.heap.size v l ∧ RR w1 b M ∧ w.grownBy w1 (some b)) := ⟨hx, ho.mono (by simp; omega), hR, grown_trans (grown_weak (grown3 _ _ _ _) _) hg⟩
    clear hx ho hR hg h
    go_wp2_with fail
    go_ret
    exact .inl ⟨l, M, _, F.out.1, rfl, F.out.2.1, F.out.2.2.1, F.out.2.2.2⟩
end Go.Proofs.YtfocmbnhkldnfaaGreatDoor
