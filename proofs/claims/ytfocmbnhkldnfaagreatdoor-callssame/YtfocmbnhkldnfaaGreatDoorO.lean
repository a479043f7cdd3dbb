/-
  Calls are read: Read.
-/
import Derived.Test.YtfocmbnhkldnfaaGreatDoorN
namespace Go.Proofs.YtfocmbnhkldnfaaGreatDoor
open Go.RowKit Disk
open Names (Str)
open Wire (RdB RdG)

theorem list88_int (x : Int) (b : Nat) (L : Bs) (most : Nat) (hx : x = most) (w : World) (hm : most ≤ 100) (hz : L.length ≤ 140737488355328) (hr : RR w b L) :
    Calls Tryz.prog 88 #[rdV b, .int .i64 x, .func (.func 89) #[] #[]] w (RdPost b w (pList pOp most L) (fun l v w' => OpsOwn w' w.heap.size v l)) := by subst hx; exact list88 b L most w hm hz hr

/-- Ops, at least one. -/
def pOps (L : Bs) : Option (List POp × Bs) := (pList pOp 16 L).bind fun l => if l.1.length = 0 then none else some l
theorem pCall_ops (L : Bs) : pCall L = (pOps L).bind fun l => if l.2.length = 0 then some l.1 else none := by
  unfold pCall pOps
  cases pList pOp 16 L with
  | none => rfl
  | some l => simp only [Option.bind_some]; split <;> rfl

set_option maxRecDepth 100000 in
set_option maxHeartbeats 2000000 in
theorem call48 (b : Nat) (L : Bs) (w : World) (hz : L.length ≤ 140737488355328) (hr : RR w b L) :
    Calls Tryz.prog 48 #[rdV b] w (RdPost b w (pOps L) (fun l v w' => ∃ u, v = .agg #[u] ∧ OpsOwn w' w.heap.size u l)) := by
  have HR : Hid (RR w b L) := hr
  have hbl : b < w.heap.size := by obtain ⟨s, hs⟩ := hr.blk; exact hs.lt
  clear hr
  have e0 : rdV b = .agg #[.pointer (some ⟨b, 0, none⟩)] := rfl
  rw [e0]
  go_enter Tryz.func48, Tryz.ntmps48
  go_wp2_with (go_at_call 88; refine (list88_int _ b L 16 rfl _ (by decide) hz (HR.out.grown (grown_trans (World.grownBy_alloc _ _ none) (World.grownBy_alloc _ _ none)))).mono ?_)
  intro e w1 h
  rcases h.symm with ⟨hx, rfl, hg⟩ | ⟨l, M, v, hx, rfl, ho, hR, hg⟩
  · have F : Hid (pOps L = none ∧ w.grownBy w1 (some b)) := ⟨by unfold pOps; rw [hx]; rfl, grown_trans (grown_trans (World.grownBy_alloc _ _ _) (World.grownBy_alloc _ _ _)) hg⟩
    clear hx hg h
    unfold Pan
    go_wp2_with fail
    exact ⟨rfl, .inr ⟨F.out.1, rfl, F.out.2⟩⟩
  clear h
  obtain ⟨x, n, y, rfl, hn⟩ := ho.slice
  have hres : Blk w1 (w.heap.size + 1) 24 #[.slice none 0 0] := by
    have := Blk.grown (heap_alloc_new (w.alloc (.cells #[.pointer (some ⟨b, 0, none⟩)] 86)) (.cells #[.slice none 0 0] 24)) hg (fun e => by simp at e; omega)
    simpa using this
  have F : Hid (pList pOp 16 L = some (l, M) ∧ OpsOwn w1 w.heap.size (.slice x n y) l ∧ RR w1 b M ∧ w.grownBy w1 (some b) ∧ n = l.length ∧ Blk w1 (w.heap.size + 1) 24 #[.slice none 0 0]) := ⟨hx, ho.mono (by simp; omega), hR, grown_trans (grown_trans (World.grownBy_alloc _ _ _) (World.grownBy_alloc _ _ _)) hg, hn, hres⟩
  have c0 := hres.cell 0
  have z0 := hres.free 0
  have hn2 : n ≤ 1099511627776 := by rw [hn]; exact ho.2
  clear hx ho hR hg hn hres
  by_cases h0 : n = 0
  · have HQ : Hid (pOps L = none) := by unfold pOps; rw [F.out.1]; simp only [Option.bind_some]; rw [if_pos (by rw [← F.out.2.2.2.2.1]; exact h0)]; rfl
    subst h0
    go_wp2_with (go_at_call 55; refine (sure_no _ _).mono ?_; rintro e w2 ⟨rfl, hw2⟩; rw [hw2]; clear hw2; unfold Pan)
    exact ⟨rfl, .inr ⟨HQ.out, rfl, F.out.2.2.2.1⟩⟩
  · have i0 : (0 : Int) < (n : Int) := by omega
    have i1 : 0 < n := by omega
    have HQ : Hid (pOps L = some (l, M)) := by unfold pOps; rw [F.out.1]; simp only [Option.bind_some]; rw [if_neg (by rw [← F.out.2.2.2.2.1]; exact h0)]; rfl
    have hb := F.out.2.2.2.2.2.store 0 (.slice x n y)
    have HB : Hid _ := hb
    clear hb
    go_wp2_with (go_at_call 55; refine (sure_yes _ _).mono ?_; rintro e w2 ⟨rfl, hw2⟩; rw [hw2]; clear hw2)
    refine bodyPost_ret (v := _) (results_cell_row rfl _ _ (w.heap.size + 1) 24 _ (0, 0) _ rfl HB.out Tryz.underlying24 rfl (by kernel_rfl)) rfl ?_
    exact .inl ⟨l, M, _, HQ.out, rfl, ⟨_, rfl, F.out.2.1.set F.out.2.2.2.2.2 (by decide) (by decide) (grown_setCell _ _ _ _)⟩, F.out.2.2.1.set F.out.2.2.2.2.2 (grown_setCell _ _ _ _) (by decide) (by decide), grown_new F.out.2.2.2.1 (grown_setCell _ _ _ _) (fun y hy => by simp at hy; omega)⟩

set_option maxRecDepth 100000 in
set_option maxHeartbeats 2000000 in
theorem whole85 (p q : Nat) (v : Value) (L : Bs) (w : World) (hz : L.length ≤ 140737488355328) (hp : w.cell? ⟨p, 0, none⟩ = some v) (hq : w.cell? ⟨q, 0, none⟩ = some (.func (.func 48) #[] #[])) (hs : Seg w v L) :
    Calls Tryz.prog 85 #[.pointer (some ⟨p, 0, none⟩), .pointer (some ⟨q, 0, none⟩)] w (Within w (fun u w' => ∃ l x, pCall L = some l ∧ u = .agg #[x] ∧ OpsOwn w' w.heap.size x l) (fun c _ => pCall L = none ∧ c = 4)) := by
  have HS : Hid (Seg w v L) := hs
  obtain ⟨x0, y0, e0⟩ := hs.shape
  obtain ⟨n0, hn0⟩ : ∃ n, n = L.length := ⟨_, rfl⟩
  rw [← hn0] at e0
  subst e0
  have kp := fun o => grown_fun (World.grownBy_alloc w o none) hp
  have HQ : Hid (w.cell? ⟨q, 0, none⟩ = some (.func (.func 48) #[] #[])) := hq
  clear hs hp hq hn0
  go_enter Tryz.func85, Tryz.ntmps85
  go_wp2_with (go_at_call 86; refine (open86 _ L _ (HS.out.grown (World.grownBy_alloc _ _ none)) hz).mono ?_)
  rintro e w1 ⟨b, rfl, hb, hR, hg⟩
  have hres : Blk w1 w.heap.size 24 #[.slice none 0 0] := Blk.grown (heap_alloc_new w _) hg (by simp)
  have kq := fun o => grown_fun (World.grownBy_alloc w1 o none) (grown_fun (grown_trans (World.grownBy_alloc _ _ none) hg) HQ.out)
  have H1 : Hid (RR (w1.alloc (.cells #[.pointer (some ⟨b, 0, none⟩)] 86)) b L ∧ w.grownBy (w1.alloc (.cells #[.pointer (some ⟨b, 0, none⟩)] 86)) none ∧ Blk (w1.alloc (.cells #[.pointer (some ⟨b, 0, none⟩)] 86)) w.heap.size 24 #[.slice none 0 0] ∧ Blk (w1.alloc (.cells #[.pointer (some ⟨b, 0, none⟩)] 86)) w1.heap.size 86 #[.pointer (some ⟨b, 0, none⟩)] ∧ w.heap.size < b ∧ w.heap.size < w1.heap.size) := ⟨hR.grown (World.grownBy_alloc _ _ none), grown_trans (grown_trans (World.grownBy_alloc _ _ none) hg) (World.grownBy_alloc _ _ none), hres.grown (World.grownBy_alloc _ _ none) (by simp), heap_alloc_new _ _, by simp at hb; omega, by have := hg.size; simp at this; omega⟩
  clear hR hres hg kp hb
  go_wp2_with (go_at_call 48; refine (call48 b L _ hz H1.out.1).mono ?_)
  generalize (w1.alloc (.cells #[.pointer (some ⟨b, 0, none⟩)] 86)) = W1 at H1 ⊢
  intro e w2 h
  rcases h.symm with ⟨hx, rfl, hg⟩ | ⟨l, M, v, hx, rfl, ⟨u, rfl, ho⟩, hR, hg⟩
  · have F : Hid (pCall L = none ∧ w.grownBy w2 none) := ⟨by rw [pCall_ops, hx]; rfl, grown_new H1.out.2.1 hg (fun y hy => by simp at hy; have := H1.out.2.2.2.2.1; omega)⟩
    clear hx hg h
    unfold Pan
    go_wp2_with fail
    exact ⟨rfl, .inr ⟨4, rfl, ⟨F.out.1, rfl⟩, F.out.2⟩⟩
  clear h
  obtain ⟨x, n, y, rfl, hn⟩ := ho.slice
  have hr2 : Blk w2 w.heap.size 24 #[.slice none 0 0] := H1.out.2.2.1.grown hg (fun e => by simp at e; have := H1.out.2.2.2.2.1; omega)
  have hx2 : Blk w2 w1.heap.size 86 #[.pointer (some ⟨b, 0, none⟩)] := H1.out.2.2.2.1.grown hg (fun e => by
    simp at e
    exact H1.out.1.ne H1.out.2.2.2.1 (by decide) e.symm)
  have F : Hid (pOps L = some (l, M) ∧ OpsOwn w2 w.heap.size (.slice x n y) l ∧ RR w2 b M ∧ w.grownBy w2 none ∧ Blk w2 w.heap.size 24 #[.slice none 0 0]) := ⟨hx, ho.mono H1.out.2.1.size, hR, grown_new H1.out.2.1 hg (fun y hy => by simp at hy; have := H1.out.2.2.2.2.1; omega), hr2⟩
  have kx := fun o => grown_fun (World.grownBy_alloc w2 o none) (hx2.cell 0)
  have c0 := fun o => grown_fun (World.grownBy_alloc w2 o none) (hr2.cell 0)
  have z0 := fun o => (hr2.grown (World.grownBy_alloc w2 o none) (by simp)).free 0
  have HRR := fun o => F.out.2.2.1.grown (World.grownBy_alloc w2 o none)
  have HR2 : Hid _ := HRR
  clear hx ho hR hg hn hr2 hx2 HRR
  by_cases hM : M = []
  · have HC : Hid (pCall L = some l) := by rw [pCall_ops, F.out.1]; simp [hM, Hid]
    go_wp2_with (first | (go_at_call 87; refine (end87 b M _ (HR2.out _)).mono ?_; rintro e w3 ⟨rfl, hw3⟩; rw [hw3, if_pos hM]; clear hw3) | (go_at_call 55; refine (sure_yes _ _).mono ?_; rintro e w3 ⟨rfl, hw3⟩; rw [hw3]; clear hw3))
    have hb := (F.out.2.2.2.2.grown (World.grownBy_alloc w2 (.cells #[.slice x n y] 24) none) (by simp)).store 0 (.slice x n y)
    refine bodyPost_ret (v := _) (results_cell_row rfl _ _ w.heap.size 24 _ (0, 0) _ rfl hb Tryz.underlying24 rfl (by kernel_rfl)) rfl ?_
    exact .inl ⟨_, rfl, ⟨l, _, HC.out, rfl, (F.out.2.1.grown (World.grownBy_alloc _ _ none)).set (F.out.2.2.2.2.grown (World.grownBy_alloc _ _ none) (by simp)) (by decide) (by decide) (grown_setCell _ _ _ _)⟩, grown_new (grown_trans F.out.2.2.2.1 (World.grownBy_alloc _ _ none)) (grown_setCell _ _ _ _) (fun y hy => by simp at hy; omega)⟩
  · have HC : Hid (pCall L = none) := by rw [pCall_ops, F.out.1]; simp [hM, Hid]
    go_wp2_with (first | (go_at_call 87; refine (end87 b M _ (HR2.out _)).mono ?_; rintro e w3 ⟨rfl, hw3⟩; rw [hw3, if_neg hM]; clear hw3) | (go_at_call 55; refine (sure_no _ _).mono ?_; rintro e w3 ⟨rfl, hw3⟩; rw [hw3]; clear hw3; unfold Pan))
    exact ⟨rfl, .inr ⟨4, rfl, ⟨HC.out, rfl⟩, grown_trans F.out.2.2.2.1 (World.grownBy_alloc _ _ none)⟩⟩

/-- A call's reading: the call, or an error. -/
def ReadPost (w : World) (r : List POp × Int) (e : Ending) (w' : World) : Prop := ∃ u, e = .returned (.tuple #[.agg #[u], .int .i64 r.2]) ∧ OpsOwn w' w.heap.size u r.1 ∧ w.grownBy w' none
def rdRes (L : Bs) : List POp × Int := match pCall L with | some l => (l, 0) | none => ([], 4)

set_option maxRecDepth 100000 in
set_option maxHeartbeats 2000000 in
theorem whole47 (v : Value) (L : Bs) (w : World) (hz : L.length ≤ 140737488355328) (hs : Seg w v L) :
    Calls Tryz.prog 47 #[v, .func (.func 48) #[] #[]] w (ReadPost w (rdRes L)) := by
  have HS : Hid (Seg w v L) := hs
  obtain ⟨x0, y0, e0⟩ := hs.shape
  obtain ⟨n0, hn0⟩ : ∃ n, n = L.length := ⟨_, rfl⟩
  rw [← hn0] at e0
  subst e0
  have hmf : ∀ (fn : Fn) (first cap : Array Value) (w : World), (Instr.makeFunc fn first cap).run Tryz.prog w = .ok (.func fn first cap) w := fun _ _ _ _ => rfl
  clear hs hn0
  obtain ⟨W, hW⟩ : ∃ W, W = ((w.alloc (.cells #[.slice x0 n0 y0] 29)).alloc (.cells #[.func (.func 48) #[] #[]] 83)).alloc (.cells #[.slice none 0 0] 24) := ⟨_, rfl⟩
  have hgW : w.grownBy W none := by rw [hW]; exact grown3 _ _ _ _
  have k1 : W.cell? ⟨w.heap.size, 0, none⟩ = some (.slice x0 n0 y0) := by rw [hW]; simp [go_sem]
  have k2 : W.cell? ⟨w.heap.size + 1, 0, none⟩ = some (.func (.func 48) #[] #[]) := by rw [hW]; simp [go_sem]
  have k3 : Blk W (w.heap.size + 1 + 1) 24 #[.slice none 0 0] := by
    have := heap_alloc_new ((w.alloc (.cells #[.slice x0 n0 y0] 29)).alloc (.cells #[.func (.func 48) #[] #[]] 83)) (.cells #[.slice none 0 0] 24)
    rw [hW]
    simpa [Blk] using this
  have hin := whole85 w.heap.size (w.heap.size + 1) (.slice x0 n0 y0) L ((W.alloc (.cells #[.slice none 0 0] 24)).alloc (.cells #[.int .i64 0] 30)) hz (grown_fun (grown_trans (World.grownBy_alloc _ _ none) (World.grownBy_alloc _ _ none)) k1) (grown_fun (grown_trans (World.grownBy_alloc _ _ none) (World.grownBy_alloc _ _ none)) k2) (HS.out.grown (grown_trans hgW (grown_trans (World.grownBy_alloc _ _ none) (World.grownBy_alloc _ _ none))))
  have HF : Hid _ := face51_85 _ _ W _ _ (by
    rintro u w1 ⟨l, x, _, rfl, ho⟩
    obtain ⟨a, n, c, rfl, _⟩ := ho.slice
    exact ⟨a, n, c, rfl⟩) (by
    rintro u w1 w2 b t c ⟨l, x, h1, h2, ho⟩ hb ht hg
    refine ⟨l, x, h1, h2, ho.set hb ?_ ?_ hg⟩ <;> omega) hin
  have HG : Hid (w.grownBy W none ∧ Blk W (w.heap.size + 1 + 1) 24 #[.slice none 0 0]) := ⟨hgW, k3⟩
  clear hin hgW k1 k2 k3
  go_enter Tryz.func47, Tryz.ntmps47
  go_wp2_with (go_at_call 51; rw [← hW]; refine Calls.mono HF.out ?_)
  rintro e w1 ⟨(⟨u, rfl, l, x, hx, rfl, ho⟩ | ⟨c, w2, rfl, hx, rfl⟩), hg⟩
  · obtain ⟨a, n, y, rfl, hn⟩ := ho.slice
    have hb : Blk w1 (w.heap.size + 1 + 1) 24 #[.slice none 0 0] := HG.out.2.grown hg (by simp)
    have c0 := hb.cell 0
    have z0 := hb.free 0
    have F : Hid (rdRes L = (l, 0) ∧ OpsOwn w1 w.heap.size (.slice a n y) l ∧ w.grownBy w1 none ∧ Blk w1 (w.heap.size + 1 + 1) 24 #[.slice none 0 0]) := ⟨by unfold rdRes; rw [hx], ho.mono (by have := HG.out.1.size; simp; omega), grown_trans HG.out.1 hg, hb⟩
    clear hx ho hg hb HF hW hn
    go_wp2_with fail
    have hb2 := F.out.2.2.2.store 0 (.slice a n y)
    refine bodyPost_ret (v := _) (results_row_tmp rfl _ _ (w.heap.size + 1 + 1) _ rfl (run_loadVar_row _ (w.heap.size + 1 + 1) 24 24 _ (0, 0) _ hb2 Tryz.underlying24 rfl (by kernel_rfl))) rfl ?_
    exact ⟨_, by rw [F.out.1]; rfl, by rw [F.out.1]; exact F.out.2.1.set F.out.2.2.2 (by decide) (by decide) (grown_setCell _ _ _ _), grown_new F.out.2.2.1 (grown_setCell _ _ _ _) (fun y hy => by simp at hy; omega)⟩
  · have hb : Blk w1 (w.heap.size + 1 + 1) 24 #[.slice none 0 0] := HG.out.2.grown hg (by simp)
    have c0 := hb.cell 0
    have z0 := hb.free 0
    have F : Hid (rdRes L = ([], 4) ∧ w.grownBy w1 none ∧ Blk w1 (w.heap.size + 1 + 1) 24 #[.slice none 0 0]) := ⟨by unfold rdRes; rw [hx], grown_trans HG.out.1 hg, hb⟩
    clear hx hg hb HF hW
    go_wp2_with fail
    have hb2 := F.out.2.2.store 0 (.slice none 0 0)
    refine bodyPost_ret (v := _) (results_row_tmp rfl _ _ (w.heap.size + 1 + 1) _ rfl (run_loadVar_row _ (w.heap.size + 1 + 1) 24 24 _ (0, 0) _ hb2 Tryz.underlying24 rfl (by kernel_rfl))) rfl ?_
    exact ⟨_, by rw [F.out.1]; rfl, by rw [F.out.1]; exact ⟨lrow_nil _ _, by simp⟩, grown_new F.out.2.1 (grown_setCell _ _ _ _) (fun y hy => by simp at hy; omega)⟩

set_option maxRecDepth 100000 in
set_option maxHeartbeats 2000000 in
theorem read22 (v : Value) (L : Bs) (w : World) (hz : L.length ≤ 140737488355328) (hs : Seg w v L) :
    Calls Tryz.prog 22 #[v] w (ReadPost w (readC L)) := by
  have HS : Hid (Seg w v L) := hs
  obtain ⟨x0, y0, e0⟩ := hs.shape
  obtain ⟨n0, hn0⟩ : ∃ n, n = L.length := ⟨_, rfl⟩
  rw [← hn0] at e0
  subst e0
  have hn1 : n0 ≤ 140737488355328 := by omega
  have HN : Hid (n0 = L.length) := hn0
  clear hs hn0
  by_cases hle : n0 ≤ 4096
  · have i1 : ¬ (4096 : Int) < (n0 : Int) := by omega
    have HC : Hid (readC L = rdRes L) := by unfold readC rdRes; rw [if_pos (by rw [← HN.out]; exact hle)]; rfl
    go_enter Tryz.func22, Tryz.ntmps22
    go_wp2_with (go_at_call 47; refine (whole47 _ L _ hz (HS.out.grown (World.grownBy_alloc _ _ none))).mono ?_)
    rintro e w1 ⟨u, rfl, ho, hg⟩
    obtain ⟨a, n, y, rfl, hn⟩ := ho.slice
    have hb : Blk w1 w.heap.size 24 #[.slice none 0 0] := Blk.grown (heap_alloc_new w _) hg (by simp)
    have c0 := hb.cell 0
    have z0 := hb.free 0
    have F : Hid (OpsOwn w1 w.heap.size (.slice a n y) (rdRes L).1 ∧ w.grownBy w1 none ∧ Blk w1 w.heap.size 24 #[.slice none 0 0]) := ⟨ho.mono (by simp), grown_trans (World.grownBy_alloc _ _ none) hg, hb⟩
    clear ho hg hb hn
    go_wp2_with fail
    have hb2 := F.out.2.2.store 0 (.slice a n y)
    refine bodyPost_ret (v := _) (results_row_tmp rfl _ _ w.heap.size _ rfl (run_loadVar_row _ w.heap.size 24 24 _ (0, 0) _ hb2 Tryz.underlying24 rfl (by kernel_rfl))) rfl ?_
    exact ⟨_, by rw [HC.out]; rfl, by rw [HC.out]; exact F.out.1.set F.out.2.2 (by decide) (by decide) (grown_setCell _ _ _ _), grown_new F.out.2.1 (grown_setCell _ _ _ _) (fun y hy => by simp at hy; omega)⟩
  · have i1 : (4096 : Int) < (n0 : Int) := by omega
    have HC : Hid (readC L = ([], 3)) := by unfold readC; rw [if_neg (by rw [← HN.out]; exact hle)]; rfl
    go_enter Tryz.func22, Tryz.ntmps22
    go_wp2_with fail
    refine bodyPost_ret (v := _) (results_row_tmp rfl _ _ w.heap.size _ rfl (run_loadVar_row _ w.heap.size 24 24 _ (0, 0) _ (heap_alloc_new w _) Tryz.underlying24 rfl (by kernel_rfl))) rfl ?_
    exact ⟨_, by rw [HC.out]; rfl, by rw [HC.out]; exact ⟨lrow_nil _ _, by simp⟩, World.grownBy_alloc _ _ none⟩
end Go.Proofs.YtfocmbnhkldnfaaGreatDoor
