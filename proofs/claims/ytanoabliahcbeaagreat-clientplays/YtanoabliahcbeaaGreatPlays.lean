import Derived.Test.YtanoabliahcbeaaGreatTagAll
import Derived.Test.YtanoabliahcbeaaGreatOq
set_option maxHeartbeats 4000000
set_option maxRecDepth 100000
namespace Go.Proofs.YtanoabliahcbeaaGreat
open Go.ChangeShapes Go.WideShapes Go.ChangeAt Go.RowKit Disk
theorem Tryz.cellsOf25:Tryz.prog.cellsOf 25=8:=by kernel_rfl
section
variable {H:Type} {enc:TypeId × Value->H} {W:World}
theorem open_cfg {r:Reach}{b0:Nat}{v:Value}{d:DataW H}{p:List MemPlace}(hv:Value.okWide Tryz.prog W r b0 25 v)(h:DataW.Trod enc Tryz.prog W 0 (fun _=>true) true 25 v d p):∃c:Wn.PCfg,v=Wn.cfgV c:=by
 obtain ⟨cs,rfl,hsz⟩:=okWide_struct Tryz.underlying25 hv
 rw [Tryz.cellsOf25] at hsz
 obtain ⟨l⟩:=cs
 match l,hsz with
 | [v0,v1,v2,v3,v4,v5,v6,v7],_ =>
  obtain ⟨fuel,hf⟩:=h
  obtain ⟨xs,k,hk,hxy,_,hxl,hfd⟩:=DataW.trod_struct Tryz.underlying25 hf
  match xs,hxl with
  | [y0,y1,y2,y3,y4,y5,y6],_ =>
   have g0:=hfd 0 _ rfl
   have g1:=hfd 1 _ rfl
   have g2:=hfd 2 _ rfl
   have g3:=hfd 3 _ rfl
   have g4:=hfd 4 _ rfl
   have g5:=hfd 5 _ rfl
   have g6:=hfd 6 _ rfl
   have e23:Tryz.prog.cellsOf 23=2:=by kernel_rfl
   simp [Value.cells,Tryz.cells3,Tryz.cells2,e23] at g0 g1 g2 g3 g4 g5 g6
   obtain ⟨xs2,k2,hk2,hxy2,_,hxl2,hfd2⟩:=DataW.trod_struct Tryz.underlying23 g0
   match xs2,hxl2 with
   | [a0,a1],_ =>
    have p0:=hfd2 0 _ rfl
    have p1:=hfd2 1 _ rfl
    simp [Tryz.cells3] at p0 p1
    obtain ⟨z0,r0,_,w0⟩:=DataW.trod_int Tryz.underlying3 p0
    obtain ⟨z1,r1,_,w1⟩:=DataW.trod_int Tryz.underlying3 p1
    obtain ⟨z2,r2,_,w2⟩:=DataW.trod_int Tryz.underlying3 g1
    obtain ⟨z3,r3,_,w3⟩:=DataW.trod_int Tryz.underlying3 g2
    obtain ⟨z4,r4,_,w4⟩:=DataW.trod_int Tryz.underlying3 g3
    obtain ⟨z5,r5,_,w5⟩:=DataW.trod_int Tryz.underlying2 g4
    obtain ⟨z6,r6,_,w6⟩:=DataW.trod_int Tryz.underlying2 g5
    obtain ⟨z7,r7,_,w7⟩:=DataW.trod_int Tryz.underlying3 g6
    simp at r0 r1 r2 r3 r4 r5 r6 r7
    subst r0 r1 r2 r3 r4 r5 r6 r7
    exact ⟨⟨z0,z1,z2,z3,z4,z5,z6,z7⟩,rfl⟩
end
theorem Tryz.ownP:ownKnob Tryz.prog.godebug=none:=by kernel_rfl
theorem plays_lifted (os:Os)(started:os.Started)(H:Type)(enc:TypeId × Value->H) :
  ReturnsInHanded {} Tryz.checked os 3 .any (Rows.clientPlaysSpec.pre6 enc Tryz.prog Tryz.f3 Rows.clientPlaysRow.domain false) (Rows.clientPlaysSpec.post enc Tryz.prog Tryz.f3 false true false false):=by
 refine returnsInHanded_of_change_sized (C:=Tryz.checked) Tryz.ownP started (by kernel_rfl) Tryz.func3
  (ChangeSpec.witness6 (enc:=enc) (C:=Tryz.checked) false ⟨#[],#[.int .i64 0,.agg #[.int .i64 0,.int .i64 0,.int .i64 0,.int .i64 0,.int .i64 0,.int .i64 0,.int .i64 0,.int .i64 0],.slice none 0 0],[]⟩ 8 (by kernel_rfl) (by kernel_rfl) (by kernel_rfl) (by kernel_rfl)) ?_
 intro W base args ds gs before hval0 hW hcnd hsz0 _
 have hval:∀(j:Nat) t v,Tryz.f3.params[j]? = some t->args[j]? = some v->Value.okWide Tryz.prog W .any base t v:=hval0
 have hW':=hW
 obtain ⟨p,q,hA0,hV,rfl,hfz,hnd⟩:=hW
 have hA:DataW.TrodAll enc Tryz.prog W 0 (fun _=>true) true Tryz.f3.params.toList args.toList ds p:=hA0
 rw [Tryz.params3] at hA hval
 obtain ⟨v0,v1,v2,d0,d1,d2,p0,p1,p2,rfl,rfl,rfl,h0,h1,h2⟩:=trodAll_three hA
 obtain ⟨rfl,rfl⟩:=trodVars_none hV
 have k0:=h0
 have k1:=h1
 have k2:=h2
 have lt0:∀x ∈ p0,x.block<W.heap.size:=by obtain ⟨m,hm⟩:=k0;exact DataW.trod_lt m _ _ _ hm
 have lt1:∀x ∈ p1,x.block<W.heap.size:=by obtain ⟨m,hm⟩:=k1;exact DataW.trod_lt m _ _ _ hm
 have lt2:∀x ∈ p2,x.block<W.heap.size:=by obtain ⟨m,hm⟩:=k2;exact DataW.trod_lt m _ _ _ hm
 have hft:Fits 26 d2:=fits_of (j:=2) hsz0 rfl rfl
 obtain ⟨z,rfl⟩:∃z:Int,v0=.int .i64 z:=okWide_int Tryz.underlying3 (hval 0 3 v0 rfl rfl)
 obtain ⟨c,rfl⟩:=open_cfg (hval 1 25 v1 rfl rfl) h1
 obtain ⟨a1,len1,cap1,rfl⟩:=okWide_slice Tryz.underlying26 (hval 2 26 v2 rfl rfl)
 obtain ⟨f2,hf2⟩:=h2
 obtain ⟨ss,hss⟩:=open_steps hf2 hft
 clear hA0 hval0 hsz0
 refine (Wn.plays3 z c _ ss W hss).mono fun e W' ⟨he,hg⟩=>?_
 subst he
 have bel:=grown_below hg
 exact ⟨_,rfl,_,_,_,[],_,[],hW',trodAll_mk1 (shut_bool Tryz.underlying4 _),(trodAll_cons_mk (Below.trod Tryz.laidOut (by kernel_rfl) (of_decide_eq_true (by kernel_rfl)) k0 bel lt0) (trodAll_cons_mk (Below.trod Tryz.laidOut (by kernel_rfl) (of_decide_eq_true (by kernel_rfl)) k1 bel lt1) (trodAll_cons_mk (Below.trod Tryz.laidOut (by kernel_rfl) (of_decide_eq_true (by kernel_rfl)) k2 bel lt2) trodAll_mk0))),rfl,bel.frame _,fun h=>by cases h⟩
theorem clientPlays_holds:Rows.ClientPlaysSaid :=
 OpenClaim.holds_of_wide 3 Tryz.f3 rfl rfl rfl rfl rfl rfl rfl ⟨rfl,rfl,rfl,rfl,rfl⟩ rfl rfl rfl rfl rfl (by kernel_rfl) Tryz.func3 (by kernel_rfl)
  (of_decide_eq_true (by kernel_rfl)) (by unfold Func.isWrapper;first | (rw [if_pos (by decide +kernel)];kernel_rfl) | (rw [if_neg (by decide +kernel)];exact ⟨rfl,rfl⟩))
  (fun os started H enc _=>plays_lifted os started H enc)
end Go.Proofs.YtanoabliahcbeaaGreat
