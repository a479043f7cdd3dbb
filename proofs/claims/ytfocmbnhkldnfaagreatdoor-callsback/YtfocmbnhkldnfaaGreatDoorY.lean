/-
  The op that a text says.
-/
import Derived.Test.YtfocmbnhkldnfaaGreatDoorX
import Derived.Test.YtfocmbnhkldnfaaGreatDoorK
namespace Go.Proofs.YtfocmbnhkldnfaaGreatDoor
open Go.RowKit Disk
open Names (Str)

theorem splitK_le (sep : Bs) : ∀ (k : Nat) (s : Bs), ∀ x ∈ Lib.splitK sep 0 k s, x.length ≤ s.length
  | 0, s, x, hx => by simp [Lib.splitK] at hx; subst hx; omega
  | k + 1, s, x, hx => by
    unfold Lib.splitK at hx
    split at hx
    · simp at hx; subst hx; omega
    · simp only [List.mem_cons] at hx
      rcases hx with rfl | hx
      · rw [List.length_take]; omega
      · have := splitK_le sep k _ x hx
        rw [List.length_drop] at this
        omega

theorem split53 (s sep : Bs) (w : World) (hs : s.length ≤ 20000) (h1 : 1 ≤ sep.length) (hE : EnvF w) :
    Calls Tryz.prog 53 #[.string ⟨s.toArray⟩, .string ⟨sep.toArray⟩] w fun e w' => ∃ n, n = (Lib.split s sep).length ∧ n ≤ 20001 ∧ e = .returned (.slice (some ⟨w.heap.size, 0, none⟩) n n) ∧ w' = w.alloc (.cells ((Lib.split s sep).map Str).toArray 9) := by
  obtain ⟨m, hm⟩ := hE.maxl
  have e1 : (⟨s.toArray⟩ : ByteArray).size = s.length := by simp [ByteArray.size]
  have e2 : (⟨sep.toArray⟩ : ByteArray).size = sep.length := by simp [ByteArray.size]
  have hsz : 1 ≤ (⟨sep.toArray⟩ : ByteArray).size := by omega
  have hd := Lib.splitB_data ⟨sep.toArray⟩ 0 (Lib.countB ⟨s.toArray⟩ ⟨sep.toArray⟩) ⟨s.toArray⟩
  have hl := Lib.splitB_all ⟨sep.toArray⟩ hsz 0 _ ⟨s.toArray⟩ rfl
  have hc := Lib.countB_le ⟨sep.toArray⟩ hsz _ ⟨s.toArray⟩ (Nat.le_refl _)
  have hd2 : (Lib.splitB ⟨sep.toArray⟩ 0 (Lib.countB ⟨s.toArray⟩ ⟨sep.toArray⟩) ⟨s.toArray⟩).map (·.data.toList) = Lib.split s sep := hd
  refine (Tryz.strings_Split ⟨s.toArray⟩ ⟨sep.toArray⟩ m w (by omega) hm hsz).mono ?_
  rintro e w' ⟨rfl, rfl⟩
  have e3 : (Lib.split s sep).length = Lib.countB ⟨s.toArray⟩ ⟨sep.toArray⟩ + 1 := by rw [← hd2, List.length_map, hl]
  have e4 : (Lib.split s sep).map Str = (Lib.splitB ⟨sep.toArray⟩ 0 (Lib.countB ⟨s.toArray⟩ ⟨sep.toArray⟩) ⟨s.toArray⟩).map Value.string := by
    rw [← hd2, List.map_map]
    apply List.map_congr_left
    intro x _
    rfl
  exact ⟨_, e3.symm, by omega, rfl, by rw [e4]⟩

set_option maxHeartbeats 400000 in
theorem clone94 (x : Bs) (w : World) (hl : x.length ≤ 20000) : Calls Tryz.prog 94 #[.string ⟨x.toArray⟩] w fun e w' => e = .returned (.string ⟨x.toArray⟩) ∧ w.grownBy w' none := by
  have hsz : (⟨x.toArray⟩ : ByteArray).size ≤ 281474976710656 := by simp [ByteArray.size]; omega
  go_enter Tryz.func94, Tryz.ntmps94
  go_wp2_with (go_at_call 140; refine (Tryz.stringslite_Clone ⟨x.toArray⟩ _ hsz).mono ?_; rintro e w1 ⟨rfl, hb⟩; have H : Hid (w.grownBy w1 none) := below_grown hb; clear hb)
  go_ret
  exact ⟨rfl, H.out⟩

def wRest (k : Nat) (t key : Bs) (L : List Bs) : Option (POp × List Bs) :=
  if k = 2 then (wBytes L).bind fun v => some (⟨k, t, key, v.1, false, [], [], 0⟩, v.2)
  else if k = 4 then (wOld L).bind fun x => (wBytes x.2).bind fun v => some (⟨k, t, key, v.1, x.1.1, x.1.2, [], 0⟩, v.2)
  else if k = 5 then (wBytes L).bind fun x => (wNum x.2).bind fun m => some (⟨k, t, key, [], false, [], x.1, m.1⟩, m.2)
  else some (⟨k, t, key, [], false, [], [], 0⟩, L)
/-- The op that words say. -/
def wOp (L : List Bs) : Option POp := (wKinds L).bind fun k => (wNext k.2).bind fun t => (wBytes t.2).bind fun key => (wRest k.1 t.1 key.1 key.2).bind fun o => if o.2.length = 0 then some o.1 else none

theorem wOp_of {L L1 L2 L3 M : List Bs} {t key : Bs} {n : Nat} {o : POp} (h1 : wKinds L = some (n, L1)) (h2 : wNext L1 = some (t, L2)) (h3 : wBytes L2 = some (key, L3)) (h4 : wRest n t key L3 = some (o, M)) : wOp L = if M.length = 0 then some o else none := by unfold wOp; simp [h1, h2, h3, h4]
theorem wOp_no {L L1 L2 L3 : List Bs} {t key : Bs} {n : Nat} (h1 : wKinds L = some (n, L1)) (h2 : wNext L1 = some (t, L2)) (h3 : wBytes L2 = some (key, L3)) (h4 : wRest n t key L3 = none) : wOp L = none := by unfold wOp; simp [h1, h2, h3, h4]

/-- What is one's own, cut or not, stays. -/
def KeepC (w w' : World) : Prop := ∀ B v L, Names.Cut w B v L → Names.Cut w' B v L

structure MidW (w w1 : World) (b x : Nat) (L : List Bs) (cs : Array Value) : Prop where
  rr : WD w1 b L
  res : Blk w1 w.heap.size 71 #[.int .i64 0, .string ⟨#[]⟩, .slice none 0 0, .slice none 0 0, .bool false, .slice none 0 0, .slice none 0 0, .int .i64 0]
  op : Blk w1 x 71 cs
  grow : w.grownBy w1 none
  env : EnvF w1
  fb : w.heap.size ≤ b
  fx : w.heap.size < x
  b9 : 9 ≤ b
  w9 : 9 ≤ w.heap.size
theorem MidW.call {w w1 w2 : World} {b x : Nat} {L M : List Bs} {cs : Array Value} (h : MidW w w1 b x L cs) (hr : WD w2 b M) (hg : w1.grownBy w2 (some b)) : MidW w w2 b x M cs := by
  obtain ⟨v, hv⟩ := h.rr.blk
  refine ⟨hr, h.res.grown hg (fun e => ?_), h.op.grown hg (fun e => ?_), grown_new h.grow hg (fun y hy => by simp at hy; have := h.fb; omega), h.env.set hg h.b9, h.fb, h.fx, h.b9, h.w9⟩
  · simp at e; rw [e] at hv; have := blk_type hv h.res; omega
  · simp at e; rw [e] at hv; have := blk_type hv h.op; omega
theorem MidW.keep {w w1 w2 : World} {b x : Nat} {L : List Bs} {cs : Array Value} (h : MidW w w1 b x L cs) (hg : w1.grownBy w2 (some b)) : KeepC w1 w2 := by
  obtain ⟨s, hs⟩ := h.rr.blk
  exact fun _ _ _ hc => cut_set hc hs (by decide) hg
theorem MidW.store {w w1 : World} {b x : Nat} {L : List Bs} {cs : Array Value} (h : MidW w w1 b x L cs) (i : Nat) (v : Value) : MidW w (w1.setCell ⟨x, i, none⟩ v) b x L (cs.setIfInBounds i v) :=
  have hg := grown_setCell w1 x i v
  ⟨h.rr.set h.op (by decide) (by decide) hg, h.res.grown hg (fun e => by have := h.fx; simp at e; omega), h.op.store i v, grown_new h.grow hg (fun y hy => by simp at hy; have := h.fx; omega), h.env.set hg (by have := h.fx; have := h.w9; omega), h.fb, h.fx, h.b9, h.w9⟩
theorem MidW.skeep {w w1 : World} {b x : Nat} {L : List Bs} {cs : Array Value} (h : MidW w w1 b x L cs) (i : Nat) (v : Value) : KeepC w1 (w1.setCell ⟨x, i, none⟩ v) := fun _ _ _ hc => cut_set hc h.op (by decide) (grown_setCell _ _ _ _)
theorem MidW.grownE {w w1 w2 : World} {b x : Nat} {L : List Bs} {cs : Array Value} (h : MidW w w1 b x L cs) (hg : w1.grownBy w2 none) : MidW w w2 b x L cs := ⟨h.rr.grown hg, h.res.grown hg (by simp), h.op.grown hg (by simp), grown_trans h.grow hg, h.env.grown hg, h.fb, h.fx, h.b9, h.w9⟩

/-- What is told of a text's op. -/
def OfPost (w : World) (r : Option POp) (e : Ending) (w' : World) : Prop := (∃ o k x ol t, r = some o ∧ e = .returned (opV k x ol t o) ∧ OpOwn w' w.heap.size k x ol t o ∧ w.grownBy w' none) ∨ (r = none ∧ e = Pan 4 ∧ w.grownBy w' none)
theorem MidW.call_grow {w w1 w2 : World} {b x : Nat} {L : List Bs} {cs : Array Value} (h : MidW w w1 b x L cs) (hg : w1.grownBy w2 (some b)) : w.grownBy w2 none := grown_new h.grow hg (fun y hy => by simp at hy; have := h.fb; omega)

set_option maxRecDepth 100000 in
set_option maxHeartbeats 8000000 in
theorem opof54 (s : Bs) (w : World) (hz : s.length ≤ 20000) (hE : EnvF w) :
    Calls Tryz.prog 54 #[.string ⟨s.toArray⟩] w (OfPost w (wOp (Lib.split s [32]))) := by
  have HE : Hid (EnvF w) := hE
  have hpl : ∀ x ∈ Lib.split s [32], x.length ≤ 20000 := fun x hx => Nat.le_trans (splitK_le _ _ _ x hx) hz
  have h9 := hE.sz
  clear hE
  obtain ⟨L, hL⟩ : ∃ L, L = Lib.split s [32] := ⟨_, rfl⟩
  rw [← hL]
  rw [← hL] at hpl
  go_enter Tryz.func54, Tryz.ntmps54
  go_wp2_with (go_at_call 53; refine (split53 s [32] _ hz (by decide) (HE.out.grown (World.grownBy_alloc _ _ none))).mono ?_)
  rw [← hL]
  rintro e w1 ⟨n, hn, hn2, rfl, rfl⟩
  clear hL
  have HNL : Hid (n = L.length) := hn
  clear hn
  have HW : Hid (WD (((w.alloc (.cells #[.int .i64 0, .string ⟨#[]⟩, .slice none 0 0, .slice none 0 0, .bool false, .slice none 0 0, .slice none 0 0, .int .i64 0] 71)).alloc (.cells (L.map Str).toArray 9)).alloc (.cells #[.slice (some ⟨w.heap.size + 1, 0, none⟩) n n] 136)) (w.heap.size + 1 + 1) L) := by
    have hb1 : Blk (((w.alloc (.cells #[.int .i64 0, .string ⟨#[]⟩, .slice none 0 0, .slice none 0 0, .bool false, .slice none 0 0, .slice none 0 0, .int .i64 0] 71)).alloc (.cells (L.map Str).toArray 9)).alloc (.cells #[.slice (some ⟨w.heap.size + 1, 0, none⟩) n n] 136)) (w.heap.size + 1 + 1) 136 #[.slice (some ⟨w.heap.size + 1, 0, none⟩) n n] := by
      have := heap_alloc_new ((w.alloc (.cells #[.int .i64 0, .string ⟨#[]⟩, .slice none 0 0, .slice none 0 0, .bool false, .slice none 0 0, .slice none 0 0, .int .i64 0] 71)).alloc (.cells (L.map Str).toArray 9)) (.cells #[.slice (some ⟨w.heap.size + 1, 0, none⟩) n n] 136)
      simpa [Blk] using this
    have hb2 : Blk (((w.alloc (.cells #[.int .i64 0, .string ⟨#[]⟩, .slice none 0 0, .slice none 0 0, .bool false, .slice none 0 0, .slice none 0 0, .int .i64 0] 71)).alloc (.cells (L.map Str).toArray 9)).alloc (.cells #[.slice (some ⟨w.heap.size + 1, 0, none⟩) n n] 136)) (w.heap.size + 1) 9 (L.map Str).toArray := by
      refine Blk.grown ?_ (World.grownBy_alloc _ _ none) (by simp)
      have := heap_alloc_new (w.alloc (.cells #[.int .i64 0, .string ⟨#[]⟩, .slice none 0 0, .slice none 0 0, .bool false, .slice none 0 0, .slice none 0 0, .int .i64 0] 71)) (.cells (L.map Str).toArray 9)
      simpa [Blk] using this
    refine ⟨some ⟨w.heap.size + 1, 0, none⟩, n, by rw [← HNL.out]; exact hb1, by have := HNL.out; omega, by omega, hpl, fun j hj => ⟨w.heap.size + 1, 0, _, rfl, ?_, hb2⟩⟩
    rw [Nat.zero_add, hb2.cell j]
    simp [hj, Str]
  have HZ : Hid (Blk (((w.alloc (.cells #[.int .i64 0, .string ⟨#[]⟩, .slice none 0 0, .slice none 0 0, .bool false, .slice none 0 0, .slice none 0 0, .int .i64 0] 71)).alloc (.cells (L.map Str).toArray 9)).alloc (.cells #[.slice (some ⟨w.heap.size + 1, 0, none⟩) n n] 136)) w.heap.size 71 #[.int .i64 0, .string ⟨#[]⟩, .slice none 0 0, .slice none 0 0, .bool false, .slice none 0 0, .slice none 0 0, .int .i64 0] ∧ w.grownBy (((w.alloc (.cells #[.int .i64 0, .string ⟨#[]⟩, .slice none 0 0, .slice none 0 0, .bool false, .slice none 0 0, .slice none 0 0, .int .i64 0] 71)).alloc (.cells (L.map Str).toArray 9)).alloc (.cells #[.slice (some ⟨w.heap.size + 1, 0, none⟩) n n] 136)) none) := ⟨Blk.grown (Blk.grown (heap_alloc_new w _) (World.grownBy_alloc _ _ none) (by simp)) (World.grownBy_alloc _ _ none) (by simp), grown3 _ _ _ _⟩
  go_wp2_with (go_at_call 93; refine (kind93 (w.heap.size + 1 + 1) L _ HW.out (by omega) (HE.out.grown HZ.out.2).kw).mono ?_)
  generalize (((w.alloc (.cells #[.int .i64 0, .string ⟨#[]⟩, .slice none 0 0, .slice none 0 0, .bool false, .slice none 0 0, .slice none 0 0, .int .i64 0] 71)).alloc (.cells (L.map Str).toArray 9)).alloc (.cells #[.slice (some ⟨w.heap.size + 1, 0, none⟩) n n] 136)) = W0 at HW HZ ⊢
  obtain ⟨b, hb⟩ : ∃ b, b = w.heap.size + 1 + 1 := ⟨_, rfl⟩
  rw [← hb] at HW ⊢
  have HBB : Hid (b = w.heap.size + 1 + 1) := hb
  clear hb hn2 hpl
  intro e w1 h
  rcases h.symm with ⟨hx, rfl, hg⟩ | ⟨n, L1, v, hx, rfl, ⟨rfl, hn1, hn5⟩, hR, hg⟩
  · have F : Hid (wOp L = none ∧ w.grownBy w1 none) := ⟨by unfold wOp; rw [hx]; rfl, grown_new HZ.out.2 hg (fun y hy => by simp at hy; have := HBB.out; omega)⟩
    clear hx hg h
    unfold Pan
    go_wp2_with fail
    exact ⟨rfl, .inr ⟨F.out.1, rfl, F.out.2⟩⟩
  clear h
  obtain ⟨X, hX⟩ : ∃ X, X = w1.heap.size := ⟨_, rfl⟩
  have HM : Hid (MidW w (w1.alloc (.cells #[.int .i64 n, .string ⟨#[]⟩, .slice none 0 0, .slice none 0 0, .bool false, .slice none 0 0, .slice none 0 0, .int .i64 0] 71)) b X L1 #[.int .i64 n, .string ⟨#[]⟩, .slice none 0 0, .slice none 0 0, .bool false, .slice none 0 0, .slice none 0 0, .int .i64 0]) := by
    have q := HBB.out
    have q2 := hg.size
    have q3 := HZ.out.2.size
    refine ⟨hR.grown (World.grownBy_alloc _ _ none), (HZ.out.1.grown hg (fun e => by simp at e; omega)).grown (World.grownBy_alloc _ _ none) (by simp), by rw [hX]; exact heap_alloc_new w1 _, grown_trans (grown_new HZ.out.2 hg (fun y hy => by simp at hy; omega)) (World.grownBy_alloc _ _ none), ((HE.out.grown HZ.out.2).set hg (by omega)).grown (World.grownBy_alloc _ _ none), by omega, ?_, by omega, h9⟩
    obtain ⟨v, hv⟩ := hR.blk
    have := hv.lt
    omega
  have HN : Hid (wKinds L = some (n, L1) ∧ n ≤ 5) := ⟨hx, hn5⟩
  clear hx hR hg hn1 hn5
  go_wp2_with (go_at_call 95; refine (next95 b L1 _ HM.out.rr).mono ?_)
  rw [← hX]
  generalize (w1.alloc (.cells #[.int .i64 n, .string ⟨#[]⟩, .slice none 0 0, .slice none 0 0, .bool false, .slice none 0 0, .slice none 0 0, .int .i64 0] 71)) = W1 at HM ⊢
  clear hX
  intro e w2 h
  rcases h.symm with ⟨hx, rfl, hg⟩ | ⟨tb, L2, v2, hx, rfl, ⟨rfl, htl⟩, hR, hg⟩
  · have F : Hid (wOp L = none ∧ w.grownBy w2 none) := ⟨by unfold wOp; rw [HN.out.1]; simp [hx], (HM.out.call_grow hg)⟩
    clear hx hg h
    unfold Pan
    go_wp2_with fail
    exact ⟨rfl, .inr ⟨F.out.1, rfl, F.out.2⟩⟩
  clear h
  have HT : Hid (wNext L1 = some (tb, L2) ∧ tb.length ≤ 20000) := ⟨hx, htl⟩
  have HM2 : Hid _ := HM.out.call hR hg
  clear hx hR hg
  unfold Str
  go_wp2_with (go_at_call 94; refine (clone94 tb _ htl).mono ?_)
  rintro e w2' ⟨rfl, hgc⟩
  have HM3 := HM2.out.grownE hgc
  clear hgc HM2
  have k1 := HM3.op.cell 1
  have z1 := HM3.op.free 1
  have HM : Hid (MidW w (w2'.setCell ⟨X, 1, none⟩ (.string ⟨tb.toArray⟩)) b X L2 #[.int .i64 n, .string ⟨tb.toArray⟩, .slice none 0 0, .slice none 0 0, .bool false, .slice none 0 0, .slice none 0 0, .int .i64 0]) := HM3.store 1 (.string ⟨tb.toArray⟩)
  clear HM3
  go_wp2_with (go_at_call 96; refine (bytes96 b L2 _ HM.out.rr).mono ?_)
  clear k1 z1
  generalize (w2'.setCell ⟨X, 1, none⟩ (.string ⟨tb.toArray⟩)) = W2 at HM ⊢
  intro e w3 h
  rcases h.symm with ⟨hx, rfl, hg⟩ | ⟨ky, L3, v3, hx, rfl, ho, hR, hg⟩
  · have F : Hid (wOp L = none ∧ w.grownBy w3 none) := ⟨by unfold wOp; rw [HN.out.1]; simp [HT.out.1, hx], (HM.out.call_grow hg)⟩
    clear hx hg h
    unfold Pan
    go_wp2_with fail
    exact ⟨rfl, .inr ⟨F.out.1, rfl, F.out.2⟩⟩
  clear h
  have HY : Hid (wBytes L2 = some (ky, L3)) := hx
  obtain ⟨x3, n3, y3, rfl⟩ := cut_slice ho
  have HM2 := HM.out.call hR hg
  have k2 := HM2.op.cell 2
  have z2 := HM2.op.free 2
  have hw := HM.out.grow.size
  have HM3 := HM2.store 2 (.slice x3 n3 y3)
  have ho2 := HM2.skeep 2 (.slice x3 n3 y3) _ _ _ (ho.mono hw)
  have kn := HM3.op.cell 0
  have HM : Hid (MidW w (w3.setCell ⟨X, 2, none⟩ (.slice x3 n3 y3)) b X L3 #[.int .i64 n, .string ⟨tb.toArray⟩, .slice x3 n3 y3, .slice none 0 0, .bool false, .slice none 0 0, .slice none 0 0, .int .i64 0] ∧ Names.Cut (w3.setCell ⟨X, 2, none⟩ (.slice x3 n3 y3)) w.heap.size (.slice x3 n3 y3) ky) := ⟨HM3, ho2⟩
  clear hx ho hR hg HM2 HM3 ho2 hw
  by_cases h2 : n = 2
  · subst h2
    go_wp2_with (go_at_call 96; refine (bytes96 b L3 _ HM.out.1.rr).mono ?_)
    clear k2 z2 kn
    generalize (w3.setCell ⟨X, 2, none⟩ (.slice x3 n3 y3)) = W3 at HM ⊢
    intro e w4 h
    rcases h.symm with ⟨hx, rfl, hg⟩ | ⟨vl, M9, v4, hx, rfl, ho, hR, hg⟩
    · have F : Hid (wOp L = none ∧ w.grownBy w4 none) := ⟨wOp_no HN.out.1 HT.out.1 HY.out (by unfold wRest; simp [hx]), (HM.out.1.call_grow hg)⟩
      clear hx hg h
      unfold Pan
      go_wp2_with fail
      exact ⟨rfl, .inr ⟨F.out.1, rfl, F.out.2⟩⟩
    clear h
    obtain ⟨x4, n4, y4, rfl⟩ := cut_slice ho
    have HR : Hid (wOp L = if M9.length = 0 then some ⟨2, tb, ky, vl, false, [], [], 0⟩ else none) := wOp_of HN.out.1 HT.out.1 HY.out (by unfold wRest; simp [hx])
    have HM2 := HM.out.1.call hR hg
    have k3 := HM2.op.cell 3
    have z3 := HM2.op.free 3
    have hw := HM.out.1.grow.size
    have HM3 := HM2.store 3 (.slice x4 n4 y4)
    have ho2 := HM2.skeep 3 (.slice x4 n4 y4) _ _ _ (ho.mono hw)
    have ho3 := HM2.skeep 3 (.slice x4 n4 y4) _ _ _ (HM.out.1.keep hg _ _ _ HM.out.2)
    have HP : Hid (OpOwn (w4.setCell ⟨X, 3, none⟩ (.slice x4 n4 y4)) w.heap.size (.slice x3 n3 y3) (.slice x4 n4 y4) (.slice none 0 0) (.slice none 0 0) ⟨2, tb, ky, vl, false, [], [], 0⟩) := ⟨ho3, ho2, .inl (Own.nil _ _), .inl (Own.nil _ _), ⟨by simp, by simp, by simp, by simp, by have := HT.out.2; simp; omega⟩⟩
    have HM : Hid (MidW w (w4.setCell ⟨X, 3, none⟩ (.slice x4 n4 y4)) b X M9 #[.int .i64 2, .string ⟨tb.toArray⟩, .slice x3 n3 y3, .slice x4 n4 y4, .bool false, .slice none 0 0, .slice none 0 0, .int .i64 0]) := HM3
    clear hx ho hR hg HM2 HM3 ho2 ho3 hw
    obtain ⟨ao9, cp9, hw9, _⟩ := HM.out.rr
    have cw := hw9.cell 0
    obtain ⟨m9, hm9⟩ : ∃ m, m = M9.length := ⟨_, rfl⟩
    rw [← hm9] at cw
    have HL9 : Hid (m9 = M9.length) := hm9
    clear hw9 hm9
    obtain ⟨k0, k1, k2, k3, k4, k5, k6, k7⟩ := cells8 HM.out.op
    obtain ⟨r0, r1, r2, r3, r4, r5, r6, r7⟩ := cells8 HM.out.res
    obtain ⟨z0, z1, z2, z3, z4, z5, z6, z7⟩ := frees8 HM.out.res
    by_cases h9 : m9 = 0
    · have HQ : Hid (wOp L = some (⟨2, tb, ky, vl, false, [], [], 0⟩ : POp)) := by rw [HR.out, if_pos (by rw [← HL9.out]; exact h9)]; rfl
      subst h9
      have hb := (((((((HM.out.res.store 0 (.int .i64 2)).store 1 (.string ⟨tb.toArray⟩)).store 2 (.slice x3 n3 y3)).store 3 (.slice x4 n4 y4)).store 4 (.bool false)).store 5 (.slice none 0 0)).store 6 (.slice none 0 0)).store 7 (.int .i64 0)
      have HB : Hid _ := hb
      clear hb
      go_wp2_with (go_at_call 55; refine (sure_yes _ _).mono ?_; rintro e w2 ⟨rfl, hw2⟩; rw [hw2]; clear hw2)
      refine bodyPost_ret (v := _) (results_cell_row rfl _ _ w.heap.size 71 _ (0, 0) _ rfl HB.out Tryz.underlying71 rfl (by kernel_rfl)) rfl ?_
      have hg := grown8 (w4.setCell ⟨X, 3, none⟩ (.slice x4 n4 y4)) w.heap.size (.int .i64 2) (.string ⟨tb.toArray⟩) (.slice x3 n3 y3) (.slice x4 n4 y4) (.bool false) (.slice none 0 0) (.slice none 0 0) (.int .i64 0)
      exact .inl ⟨_, _, _, _, _, HQ.out, rfl, HP.out.set HM.out.res (by decide) hg, grown_new HM.out.grow hg (fun y hy => by simp at hy; omega)⟩
    · have HQ : Hid (wOp L = none) := by rw [HR.out, if_neg (by rw [← HL9.out]; exact h9)]; rfl
      have q9 : ((m9 : Int) == 0) = false := by simp [h9]
      go_wp2_with (go_at_call 55; refine (sure_no _ _).mono ?_; rintro e w2 ⟨rfl, hw2⟩; rw [hw2]; clear hw2; unfold Pan)
      exact ⟨rfl, .inr ⟨HQ.out, rfl, HM.out.grow⟩⟩
  by_cases h4 : n = 4
  · subst h4
    go_wp2_with (go_at_call 97; refine (old97 b L3 _ HM.out.1.rr).mono ?_)
    clear k2 z2 kn
    generalize (w3.setCell ⟨X, 2, none⟩ (.slice x3 n3 y3)) = W3 at HM ⊢
    intro e w4 h
    rcases h.symm with ⟨hx, rfl, hg⟩ | ⟨⟨fl, od⟩, L4, v4, hx, rfl, ⟨u4, rfl, ho⟩, hR, hg⟩
    · have F : Hid (wOp L = none ∧ w.grownBy w4 none) := ⟨wOp_no HN.out.1 HT.out.1 HY.out (by unfold wRest; simp [hx]), (HM.out.1.call_grow hg)⟩
      clear hx hg h
      unfold Pan
      go_wp2_with fail
      exact ⟨rfl, .inr ⟨F.out.1, rfl, F.out.2⟩⟩
    clear h
    have HL : Hid (wOld L3 = some ((fl, od), L4)) := hx
    simp only at ho
    obtain ⟨x5, n5, y5, rfl⟩ := cut_slice ho
    have HM2 := HM.out.1.call hR hg
    have k4 := HM2.op.cell 4
    have z4 := HM2.op.free 4
    have k5 := HM2.op.cell 5
    have z5 := HM2.op.free 5
    have hw := HM.out.1.grow.size
    have HM3 := HM2.store 4 (.bool fl)
    have ho3 := HM3.skeep 5 (.slice x5 n5 y5) _ _ _ (HM2.skeep 4 (.bool fl) _ _ _ (HM.out.1.keep hg _ _ _ HM.out.2))
    have ho2 := HM3.skeep 5 (.slice x5 n5 y5) _ _ _ (HM2.skeep 4 (.bool fl) _ _ _ (ho.mono hw))
    have HM4 := HM3.store 5 (.slice x5 n5 y5)
    have HM : Hid (MidW w ((w4.setCell ⟨X, 4, none⟩ (.bool fl)).setCell ⟨X, 5, none⟩ (.slice x5 n5 y5)) b X L4 #[.int .i64 4, .string ⟨tb.toArray⟩, .slice x3 n3 y3, .slice none 0 0, .bool fl, .slice x5 n5 y5, .slice none 0 0, .int .i64 0] ∧ Names.Cut ((w4.setCell ⟨X, 4, none⟩ (.bool fl)).setCell ⟨X, 5, none⟩ (.slice x5 n5 y5)) w.heap.size (.slice x3 n3 y3) ky ∧ Names.Cut ((w4.setCell ⟨X, 4, none⟩ (.bool fl)).setCell ⟨X, 5, none⟩ (.slice x5 n5 y5)) w.heap.size (.slice x5 n5 y5) od) := ⟨HM4, ho3, ho2⟩
    clear hx hR hg HM2 HM3 HM4 ho3 ho2 ho hw
    go_wp2_with (go_at_call 96; refine (bytes96 b L4 _ HM.out.1.rr).mono ?_)
    clear k4 z4 k5 z5
    generalize ((w4.setCell ⟨X, 4, none⟩ (.bool fl)).setCell ⟨X, 5, none⟩ (.slice x5 n5 y5)) = W5 at HM ⊢
    intro e w6 h
    rcases h.symm with ⟨hx, rfl, hg⟩ | ⟨vl, M9, v6, hx, rfl, ho, hR, hg⟩
    · have F : Hid (wOp L = none ∧ w.grownBy w6 none) := ⟨wOp_no HN.out.1 HT.out.1 HY.out (by unfold wRest; simp [HL.out, hx]), (HM.out.1.call_grow hg)⟩
      clear hx hg h
      unfold Pan
      go_wp2_with fail
      exact ⟨rfl, .inr ⟨F.out.1, rfl, F.out.2⟩⟩
    clear h
    obtain ⟨x6, n6, y6, rfl⟩ := cut_slice ho
    have HR : Hid (wOp L = if M9.length = 0 then some ⟨4, tb, ky, vl, fl, od, [], 0⟩ else none) := wOp_of HN.out.1 HT.out.1 HY.out (by unfold wRest; simp [HL.out, hx])
    have HM2 := HM.out.1.call hR hg
    have k3 := HM2.op.cell 3
    have z3 := HM2.op.free 3
    have hw := HM.out.1.grow.size
    have HM3 := HM2.store 3 (.slice x6 n6 y6)
    have ho2 := HM2.skeep 3 (.slice x6 n6 y6) _ _ _ (ho.mono hw)
    have ho3 := HM2.skeep 3 (.slice x6 n6 y6) _ _ _ (HM.out.1.keep hg _ _ _ HM.out.2.1)
    have ho4 := HM2.skeep 3 (.slice x6 n6 y6) _ _ _ (HM.out.1.keep hg _ _ _ HM.out.2.2)
    have HP : Hid (OpOwn (w6.setCell ⟨X, 3, none⟩ (.slice x6 n6 y6)) w.heap.size (.slice x3 n3 y3) (.slice x6 n6 y6) (.slice x5 n5 y5) (.slice none 0 0) ⟨4, tb, ky, vl, fl, od, [], 0⟩) := ⟨ho3, ho2, ho4, .inl (Own.nil _ _), ⟨by simp, by simp, by simp, by simp, by have := HT.out.2; simp; omega⟩⟩
    have HM : Hid (MidW w (w6.setCell ⟨X, 3, none⟩ (.slice x6 n6 y6)) b X M9 #[.int .i64 4, .string ⟨tb.toArray⟩, .slice x3 n3 y3, .slice x6 n6 y6, .bool fl, .slice x5 n5 y5, .slice none 0 0, .int .i64 0]) := HM3
    clear hx ho hR hg HM2 HM3 ho2 ho3 ho4 hw
    obtain ⟨ao9, cp9, hw9, _⟩ := HM.out.rr
    have cw := hw9.cell 0
    obtain ⟨m9, hm9⟩ : ∃ m, m = M9.length := ⟨_, rfl⟩
    rw [← hm9] at cw
    have HL9 : Hid (m9 = M9.length) := hm9
    clear hw9 hm9
    obtain ⟨k0, k1, k2, k3, k4, k5, k6, k7⟩ := cells8 HM.out.op
    obtain ⟨r0, r1, r2, r3, r4, r5, r6, r7⟩ := cells8 HM.out.res
    obtain ⟨z0, z1, z2, z3, z4, z5, z6, z7⟩ := frees8 HM.out.res
    by_cases h9 : m9 = 0
    · have HQ : Hid (wOp L = some (⟨4, tb, ky, vl, fl, od, [], 0⟩ : POp)) := by rw [HR.out, if_pos (by rw [← HL9.out]; exact h9)]; rfl
      subst h9
      have hb := (((((((HM.out.res.store 0 (.int .i64 4)).store 1 (.string ⟨tb.toArray⟩)).store 2 (.slice x3 n3 y3)).store 3 (.slice x6 n6 y6)).store 4 (.bool fl)).store 5 (.slice x5 n5 y5)).store 6 (.slice none 0 0)).store 7 (.int .i64 0)
      have HB : Hid _ := hb
      clear hb
      go_wp2_with (go_at_call 55; refine (sure_yes _ _).mono ?_; rintro e w2 ⟨rfl, hw2⟩; rw [hw2]; clear hw2)
      refine bodyPost_ret (v := _) (results_cell_row rfl _ _ w.heap.size 71 _ (0, 0) _ rfl HB.out Tryz.underlying71 rfl (by kernel_rfl)) rfl ?_
      have hg := grown8 (w6.setCell ⟨X, 3, none⟩ (.slice x6 n6 y6)) w.heap.size (.int .i64 4) (.string ⟨tb.toArray⟩) (.slice x3 n3 y3) (.slice x6 n6 y6) (.bool fl) (.slice x5 n5 y5) (.slice none 0 0) (.int .i64 0)
      exact .inl ⟨_, _, _, _, _, HQ.out, rfl, HP.out.set HM.out.res (by decide) hg, grown_new HM.out.grow hg (fun y hy => by simp at hy; omega)⟩
    · have HQ : Hid (wOp L = none) := by rw [HR.out, if_neg (by rw [← HL9.out]; exact h9)]; rfl
      have q9 : ((m9 : Int) == 0) = false := by simp [h9]
      go_wp2_with (go_at_call 55; refine (sure_no _ _).mono ?_; rintro e w2 ⟨rfl, hw2⟩; rw [hw2]; clear hw2; unfold Pan)
      exact ⟨rfl, .inr ⟨HQ.out, rfl, HM.out.grow⟩⟩
  by_cases h5 : n = 5
  · subst h5
    go_wp2_with (go_at_call 96; refine (bytes96 b L3 _ HM.out.1.rr).mono ?_)
    clear k2 z2 kn
    generalize (w3.setCell ⟨X, 2, none⟩ (.slice x3 n3 y3)) = W3 at HM ⊢
    intro e w4 h
    rcases h.symm with ⟨hx, rfl, hg⟩ | ⟨tt, L4, v4, hx, rfl, ho, hR, hg⟩
    · have F : Hid (wOp L = none ∧ w.grownBy w4 none) := ⟨wOp_no HN.out.1 HT.out.1 HY.out (by unfold wRest; simp [hx]), (HM.out.1.call_grow hg)⟩
      clear hx hg h
      unfold Pan
      go_wp2_with fail
      exact ⟨rfl, .inr ⟨F.out.1, rfl, F.out.2⟩⟩
    clear h
    have HD : Hid (wBytes L3 = some (tt, L4)) := hx
    obtain ⟨x4, n4, y4, rfl⟩ := cut_slice ho
    have HM2 := HM.out.1.call hR hg
    have k6 := HM2.op.cell 6
    have z6 := HM2.op.free 6
    have hw := HM.out.1.grow.size
    have HM3 := HM2.store 6 (.slice x4 n4 y4)
    have ho2 := HM2.skeep 6 (.slice x4 n4 y4) _ _ _ (ho.mono hw)
    have ho3 := HM2.skeep 6 (.slice x4 n4 y4) _ _ _ (HM.out.1.keep hg _ _ _ HM.out.2)
    have HM : Hid (MidW w (w4.setCell ⟨X, 6, none⟩ (.slice x4 n4 y4)) b X L4 #[.int .i64 5, .string ⟨tb.toArray⟩, .slice x3 n3 y3, .slice none 0 0, .bool false, .slice none 0 0, .slice x4 n4 y4, .int .i64 0] ∧ Names.Cut (w4.setCell ⟨X, 6, none⟩ (.slice x4 n4 y4)) w.heap.size (.slice x3 n3 y3) ky ∧ Names.Cut (w4.setCell ⟨X, 6, none⟩ (.slice x4 n4 y4)) w.heap.size (.slice x4 n4 y4) tt) := ⟨HM3, ho3, ho2⟩
    clear hx ho hR hg HM2 HM3 ho2 ho3 hw
    go_wp2_with (go_at_call 98; refine (number98 b L4 _ HM.out.1.rr HM.out.1.b9 HM.out.1.env).mono ?_)
    clear k6 z6
    generalize (w4.setCell ⟨X, 6, none⟩ (.slice x4 n4 y4)) = W4 at HM ⊢
    intro e w5 h
    rcases h.symm with ⟨hx, rfl, hg⟩ | ⟨ms, M9, v5, hx, rfl, ⟨rfl, hn1, hn2⟩, hR, hg⟩
    · have F : Hid (wOp L = none ∧ w.grownBy w5 none) := ⟨wOp_no HN.out.1 HT.out.1 HY.out (by unfold wRest; simp [HD.out, hx]), (HM.out.1.call_grow hg)⟩
      clear hx hg h
      unfold Pan
      go_wp2_with fail
      exact ⟨rfl, .inr ⟨F.out.1, rfl, F.out.2⟩⟩
    clear h
    have HR : Hid (wOp L = if M9.length = 0 then some ⟨5, tb, ky, [], false, [], tt, ms⟩ else none) := wOp_of HN.out.1 HT.out.1 HY.out (by unfold wRest; simp [HD.out, hx])
    have HM2 := HM.out.1.call hR hg
    have k7 := HM2.op.cell 7
    have z7 := HM2.op.free 7
    have HM3 := HM2.store 7 (.int .i64 ms)
    have ho3 := HM2.skeep 7 (.int .i64 ms) _ _ _ (HM.out.1.keep hg _ _ _ HM.out.2.1)
    have ho4 := HM2.skeep 7 (.int .i64 ms) _ _ _ (HM.out.1.keep hg _ _ _ HM.out.2.2)
    have HP : Hid (OpOwn (w5.setCell ⟨X, 7, none⟩ (.int .i64 ms)) w.heap.size (.slice x3 n3 y3) (.slice none 0 0) (.slice none 0 0) (.slice x4 n4 y4) ⟨5, tb, ky, [], false, [], tt, ms⟩) := ⟨ho3, .inl (Own.nil _ _), .inl (Own.nil _ _), ho4, ⟨by simp, by simp, hn1, hn2, by have := HT.out.2; simp; omega⟩⟩
    have HM : Hid (MidW w (w5.setCell ⟨X, 7, none⟩ (.int .i64 ms)) b X M9 #[.int .i64 5, .string ⟨tb.toArray⟩, .slice x3 n3 y3, .slice none 0 0, .bool false, .slice none 0 0, .slice x4 n4 y4, .int .i64 ms]) := HM3
    clear hx hR hg HM2 HM3 ho3 ho4 hn1 hn2
    obtain ⟨ao9, cp9, hw9, _⟩ := HM.out.rr
    have cw := hw9.cell 0
    obtain ⟨m9, hm9⟩ : ∃ m, m = M9.length := ⟨_, rfl⟩
    rw [← hm9] at cw
    have HL9 : Hid (m9 = M9.length) := hm9
    clear hw9 hm9
    obtain ⟨k0, k1, k2, k3, k4, k5, k6, k7⟩ := cells8 HM.out.op
    obtain ⟨r0, r1, r2, r3, r4, r5, r6, r7⟩ := cells8 HM.out.res
    obtain ⟨z0, z1, z2, z3, z4, z5, z6, z7⟩ := frees8 HM.out.res
    by_cases h9 : m9 = 0
    · have HQ : Hid (wOp L = some (⟨5, tb, ky, [], false, [], tt, ms⟩ : POp)) := by rw [HR.out, if_pos (by rw [← HL9.out]; exact h9)]; rfl
      subst h9
      have hb := (((((((HM.out.res.store 0 (.int .i64 5)).store 1 (.string ⟨tb.toArray⟩)).store 2 (.slice x3 n3 y3)).store 3 (.slice none 0 0)).store 4 (.bool false)).store 5 (.slice none 0 0)).store 6 (.slice x4 n4 y4)).store 7 (.int .i64 ms)
      have HB : Hid _ := hb
      clear hb
      go_wp2_with (go_at_call 55; refine (sure_yes _ _).mono ?_; rintro e w2 ⟨rfl, hw2⟩; rw [hw2]; clear hw2)
      refine bodyPost_ret (v := _) (results_cell_row rfl _ _ w.heap.size 71 _ (0, 0) _ rfl HB.out Tryz.underlying71 rfl (by kernel_rfl)) rfl ?_
      have hg := grown8 (w5.setCell ⟨X, 7, none⟩ (.int .i64 ms)) w.heap.size (.int .i64 5) (.string ⟨tb.toArray⟩) (.slice x3 n3 y3) (.slice none 0 0) (.bool false) (.slice none 0 0) (.slice x4 n4 y4) (.int .i64 ms)
      exact .inl ⟨_, _, _, _, _, HQ.out, rfl, HP.out.set HM.out.res (by decide) hg, grown_new HM.out.grow hg (fun y hy => by simp at hy; omega)⟩
    · have HQ : Hid (wOp L = none) := by rw [HR.out, if_neg (by rw [← HL9.out]; exact h9)]; rfl
      have q9 : ((m9 : Int) == 0) = false := by simp [h9]
      go_wp2_with (go_at_call 55; refine (sure_no _ _).mono ?_; rintro e w2 ⟨rfl, hw2⟩; rw [hw2]; clear hw2; unfold Pan)
      exact ⟨rfl, .inr ⟨HQ.out, rfl, HM.out.grow⟩⟩
  · have q2 : ((n : Int) == 2) = false := by simp; omega
    have q4 : ((n : Int) == 4) = false := by simp; omega
    have q5 : ((n : Int) == 5) = false := by simp; omega
    obtain ⟨M9, hM9⟩ : ∃ M9, M9 = L3 := ⟨_, rfl⟩
    have HR : Hid (wOp L = if M9.length = 0 then some ⟨n, tb, ky, [], false, [], [], 0⟩ else none) := by rw [hM9]; exact wOp_of HN.out.1 HT.out.1 HY.out (by unfold wRest; simp [h2, h4, h5])
    rw [← hM9] at HM
    have HP : Hid (OpOwn (w3.setCell ⟨X, 2, none⟩ (.slice x3 n3 y3)) w.heap.size (.slice x3 n3 y3) (.slice none 0 0) (.slice none 0 0) (.slice none 0 0) ⟨n, tb, ky, [], false, [], [], 0⟩) := ⟨HM.out.2, .inl (Own.nil _ _), .inl (Own.nil _ _), .inl (Own.nil _ _), ⟨by simp <;> omega, by have := HN.out.2; simp <;> omega, by simp, by simp, by have := HT.out.2; simp; omega⟩⟩
    have HM : Hid (MidW w (w3.setCell ⟨X, 2, none⟩ (.slice x3 n3 y3)) b X M9 #[.int .i64 n, .string ⟨tb.toArray⟩, .slice x3 n3 y3, .slice none 0 0, .bool false, .slice none 0 0, .slice none 0 0, .int .i64 0]) := HM.out.1
    clear hM9
    obtain ⟨ao9, cp9, hw9, _⟩ := HM.out.rr
    have cw := hw9.cell 0
    obtain ⟨m9, hm9⟩ : ∃ m, m = M9.length := ⟨_, rfl⟩
    rw [← hm9] at cw
    have HL9 : Hid (m9 = M9.length) := hm9
    clear hw9 hm9
    obtain ⟨k0, k1, k2, k3, k4, k5, k6, k7⟩ := cells8 HM.out.op
    obtain ⟨r0, r1, r2, r3, r4, r5, r6, r7⟩ := cells8 HM.out.res
    obtain ⟨z0, z1, z2, z3, z4, z5, z6, z7⟩ := frees8 HM.out.res
    by_cases h9 : m9 = 0
    · have HQ : Hid (wOp L = some (⟨n, tb, ky, [], false, [], [], 0⟩ : POp)) := by rw [HR.out, if_pos (by rw [← HL9.out]; exact h9)]; rfl
      subst h9
      have hb := (((((((HM.out.res.store 0 (.int .i64 n)).store 1 (.string ⟨tb.toArray⟩)).store 2 (.slice x3 n3 y3)).store 3 (.slice none 0 0)).store 4 (.bool false)).store 5 (.slice none 0 0)).store 6 (.slice none 0 0)).store 7 (.int .i64 0)
      have HB : Hid _ := hb
      clear hb
      go_wp2_with (go_at_call 55; refine (sure_yes _ _).mono ?_; rintro e w2 ⟨rfl, hw2⟩; rw [hw2]; clear hw2)
      refine bodyPost_ret (v := _) (results_cell_row rfl _ _ w.heap.size 71 _ (0, 0) _ rfl HB.out Tryz.underlying71 rfl (by kernel_rfl)) rfl ?_
      have hg := grown8 (w3.setCell ⟨X, 2, none⟩ (.slice x3 n3 y3)) w.heap.size (.int .i64 n) (.string ⟨tb.toArray⟩) (.slice x3 n3 y3) (.slice none 0 0) (.bool false) (.slice none 0 0) (.slice none 0 0) (.int .i64 0)
      exact .inl ⟨_, _, _, _, _, HQ.out, rfl, HP.out.set HM.out.res (by decide) hg, grown_new HM.out.grow hg (fun y hy => by simp at hy; omega)⟩
    · have HQ : Hid (wOp L = none) := by rw [HR.out, if_neg (by rw [← HL9.out]; exact h9)]; rfl
      have q9 : ((m9 : Int) == 0) = false := by simp [h9]
      go_wp2_with (go_at_call 55; refine (sure_no _ _).mono ?_; rintro e w2 ⟨rfl, hw2⟩; rw [hw2]; clear hw2; unfold Pan)
      exact ⟨rfl, .inr ⟨HQ.out, rfl, HM.out.grow⟩⟩
end Go.Proofs.YtfocmbnhkldnfaaGreatDoor
