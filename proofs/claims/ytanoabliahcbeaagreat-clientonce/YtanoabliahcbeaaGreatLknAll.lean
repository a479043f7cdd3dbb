import Derived.Test.YtanoabliahcbeaaGreatLgjAll
set_option maxHeartbeats 16000000
set_option maxRecDepth 100000
namespace Go.Proofs.YtanoabliahcbeaaGreat.Wn
open Go.RowKit Disk Table
open _root_.Go.Proofs.YtanoabliahcbeaaGreat.Calls _root_.Go.Proofs.YtanoabliahcbeaaGreat.Command
variable {s:CS}
def Sw4 (w:World)(b:Nat)(v1 v7 v8:Value)(t0:Int)(back toks:List Int)(i:Nat)(a:Act)(W:World):Prop :=
 ∃s' v17 rl p' tn',U4 a v1 (.pointer (some ⟨b,0,none⟩)) v7 v8 (.int .i64 p'.2) (.int .i64 p'.1) (.int .i64 tn') (.int .i64 (i:Nat)) v17/\Ret4 w W b v7 v8 v17 s' t0 back toks rl p' tn' i
theorem cst_id:Cst s s.id:=⟨rfl,rfl,.inl rfl,by simp only [CS.id];omega⟩
theorem cst_put (x:Cr):Cst s (s.id.put x):=⟨rfl,rfl,.inl rfl,by simp only [CS.id,CS.put];omega⟩
theorem num_id {p:Int × Int}(h:NumOk s p):NumOk s.id p:=⟨h.1,by have:=h.2.1;simp only [CS.id];omega,h.2.2⟩
theorem num_put {p:Int × Int}(x:Cr)(h:NumOk s p):NumOk (s.id.put x) p:=⟨h.1,by have:=h.2.1;simp only [CS.id,CS.put];omega,h.2.2⟩
def opM (n:Int)(t x:Int):PMsg:=⟨2,n,zeroC,⟨1,t,x,0,[]⟩⟩
theorem sw4_1 (a:Act)(w W:World)(b:Nat)(v1 v7 v8:Value)(back toks:List Int)(p:Int × Int)(tn:Int)(i:Nat)(kd nn:Int)(o0:Value)(ops:List POp)(hi:i<300)
  (ho:∀y,w.grownBy y none->Ops y o0 ops) (hsl:∃o n c,o0=.slice o n c) (hF:Fore4 w b v1 v7 v8 s back toks p tn i kd nn o0 a W) (hk:kd=1) :
  sw4.wp Tryz.prog (At4 (Sw4 w b v1 v7 v8 s.tok back toks i)) a W:=by
 obtain ⟨sb,mb,m',o1,n1,c1,o2,n2,c2,hv,hT,hO,k0,k1,k2,hM,hMo,hMa,hMl,hMi⟩:=hF
 obtain ⟨t,rfl⟩:=hT.eq
 obtain ⟨x1,x2,x3,rfl⟩:=hsl
 have HO:Hid (Onc w W b v7 v8 s back toks p tn i/\∀y,w.grownBy y none->Ops y (.slice x1 x2 x3) ops):=⟨hO,ho⟩
 clear hT hO ho hM hMo hMa hMl hMi k1
 subst hk
 unfold sw4 rest4 bd4 rnd4 b4
 dsimp only [Tryz.f4,Option.getD,cL,cR,cB,cW]
 go_wp2_with fail
 refine (rinvoke HO.out.1.run HO.out.2 (by have:=HO.out.1.lst;omega)).mono ?_
 rintro e W2 ⟨s',rfl,hs,hr,hkp⟩
 have HZ:Hid (Ret4 w W2 b v7 v8 (.slice none 0 0) s' s.tok back toks [] p tn i):=by
  have h1:=HO.out.1.nw
  rcases hs with ⟨_,o,n,c,rfl⟩ | ⟨_,rfl⟩
  ·exact ret4_of HO.out.1 hi hr hkp (rets_nil _ 0) (fresh_put o n c ops) (cst_put _) (num_put _ HO.out.1.nm) ⟨h1.1,h1.2.1,by push_cast;omega⟩ (by simp)
  ·exact ret4_of HO.out.1 hi hr hkp (rets_nil _ 0) fresh_id cst_id (num_id HO.out.1.nm) ⟨h1.1,h1.2.1,by push_cast;omega⟩ (by simp)
 clear hs hr hkp
 go_wp2_with fail
 exact ⟨_,_,_,_,_,⟨rfl,rfl,rfl,rfl,rfl,rfl,rfl,rfl,rfl,rfl,rfl⟩,HZ.out⟩
theorem sw4_3 (a:Act)(w W:World)(b:Nat)(v1 v7 v8:Value)(back toks:List Int)(p:Int × Int)(tn:Int)(i:Nat)(kd nn:Int)(o0:Value)(hi:i<300)
  (hF:Fore4 w b v1 v7 v8 s back toks p tn i kd nn o0 a W) (hk:kd=3) :
  sw4.wp Tryz.prog (At4 (Sw4 w b v1 v7 v8 s.tok back toks i)) a W:=by
 obtain ⟨sb,mb,m',o1,n1,c1,o2,n2,c2,hv,hT,hO,k0,k1,k2,hM,hMo,hMa,hMl,hMi⟩:=hF
 obtain ⟨t,rfl⟩:=hT.eq
 have HO:Hid (Onc w W b v7 v8 s back toks p tn i/\Ops W (.slice o1 n1 c1) m'.ask.ops/\Disk.Own W 0 (.slice o2 n2 c2) m'.tell.answer/\m'.tell.answer.length<=140737488354304/\InM m'):=⟨hO,hMo,hMa,hMl,hMi⟩
 obtain ⟨d0,d1,d2,d3,d4,d5,d6,d7,d8,d9,d10,d11,d12⟩:=hM.cells
 clear hT hO hM hMo hMa hMl hMi k1 k2
 subst hk
 unfold sw4 rest4 bd4 rnd4 b4
 dsimp only [Tryz.f4,Option.getD,cL,cR,cB,cW]
 go_wp2_with fail
 refine (rhear (m:=m') HO.out.1.run HO.out.2.1 HO.out.2.2.1 HO.out.2.2.2.1 HO.out.2.2.2.2 (by have:=HO.out.1.tokb;omega)).mono ?_
 rintro e W2 ⟨u,rfl,hu,hr,hkp⟩
 have HZ:Hid (Ret4 w W2 b v7 v8 u (hearS s m') s.tok back toks (hearL s m') p tn i):=by
  have h1:=HO.out.1.nw
  exact ret4_of HO.out.1 hi hr hkp hu (fresh_hear m') (cst_hear m') (num_hear m' HO.out.1.nm) ⟨by rw [now_hear];exact h1.1,h1.2.1,by push_cast;omega⟩ (hearL_len m')
 obtain ⟨u1,u2,u3,rfl⟩:=hu.slice
 clear hu hr hkp
 go_wp2_with fail
 exact ⟨_,_,_,_,_,⟨rfl,rfl,rfl,rfl,rfl,rfl,rfl,rfl,rfl,rfl,rfl⟩,HZ.out⟩
theorem sw4_4 (a:Act)(w W:World)(b:Nat)(v1 v7 v8:Value)(back toks:List Int)(p:Int × Int)(tn:Int)(i:Nat)(kd nn:Int)(o0:Value)(hi:i<300)
  (hF:Fore4 w b v1 v7 v8 s back toks p tn i kd nn o0 a W) (hk:kd=4) :
  sw4.wp Tryz.prog (At4 (Sw4 w b v1 v7 v8 s.tok back toks i)) a W:=by
 obtain ⟨sb,mb,m',o1,n1,c1,o2,n2,c2,hv,hT,hO,k0,k1,k2,hM,hMo,hMa,hMl,hMi⟩:=hF
 obtain ⟨t,rfl⟩:=hT.eq
 have HO:Hid (Onc w W b v7 v8 s back toks p tn i):=hO
 clear hT hO hM hMo hMa hMl hMi k1 k2
 subst hk
 unfold sw4 rest4 bd4 rnd4 b4
 dsimp only [Tryz.f4,Option.getD,cL,cR,cB,cW]
 go_wp2_with fail
 refine (rleave HO.out.run (by have:=HO.out.tokb;omega)).mono ?_
 rintro e W2 ⟨v,u,rfl,hv',hu,hr,hkp⟩
 have HZ:Hid (Ret4 w W2 b v7 v8 u (leaveS s) s.tok back toks (leaveL s) p tn i):=by
  have h1:=HO.out.nw
  have h2:=HO.out.run.ok
  exact ret4_of HO.out hi hr hkp hu (fresh_leave h2.none h2.ses.1) cst_leave (num_leave HO.out.nm) ⟨by rw [now_leave];exact h1.1,h1.2.1,by push_cast;omega⟩ leaveL_len
 obtain ⟨u1,u2,u3,rfl⟩:=hu.slice
 obtain ⟨q1,q2,q3,rfl,_⟩:=hv'.slice
 clear hu hr hkp hv'
 go_wp2_with fail
 exact ⟨_,_,_,_,_,⟨rfl,rfl,rfl,rfl,rfl,rfl,rfl,rfl,rfl,rfl,rfl⟩,HZ.out⟩
theorem sw4_7 (a:Act)(w W:World)(b:Nat)(v1 v7 v8:Value)(back toks:List Int)(p:Int × Int)(tn:Int)(i:Nat)(kd nn:Int)(o0:Value)(hi:i<300)
  (hF:Fore4 w b v1 v7 v8 s back toks p tn i kd nn o0 a W) (hk:kd=7) :
  sw4.wp Tryz.prog (At4 (Sw4 w b v1 v7 v8 s.tok back toks i)) a W:=by
 obtain ⟨sb,mb,m',o1,n1,c1,o2,n2,c2,hv,hT,hO,k0,k1,k2,hM,hMo,hMa,hMl,hMi⟩:=hF
 obtain ⟨t,rfl⟩:=hT.eq
 have HO:Hid (Onc w W b v7 v8 s back toks p tn i):=hO
 have d1:IntKind.i64.wrap ((i:Int)+100)=(i:Int)+100:=by rw [IntKind.wrap_i64];omega
 clear hT hO hM hMo hMa hMl hMi k1 k2
 subst hk
 unfold sw4 rest4 bd4 rnd4 b4
 dsimp only [Tryz.f4,Option.getD,cL,cR,cB,cW]
 go_wp2_with fail
 refine (rnumber HO.out.run).mono ?_
 rintro e W1 ⟨rfl,e1⟩
 subst e1
 go_wp2_with fail
 refine (rtoken HO.out.run).mono ?_
 rintro e W3 ⟨rfl,e1⟩
 subst e1
 go_wp2_with fail
 refine (rhear (m:=opM s.num s.tok ((i:Int)+100)) HO.out.run (ops_none _) (Own.nil _ _) (by simp [opM]) ⟨by simp [opM],by simp [opM],by simp [opM],by have:=HO.out.run.ok.num;simp [opM];omega,inC_zero,by have:=HO.out.run.ok.tok;constructor <;> simp [opM] <;> omega⟩ (by have:=HO.out.tokb;omega)).mono ?_
 rintro e W2 ⟨u,rfl,hu,hr,hkp⟩
 have HZ:Hid (Ret4 w W2 b v7 v8 u (hearS s (opM s.num s.tok ((i:Int)+100))) s.tok back toks (hearL s (opM s.num s.tok ((i:Int)+100))) p tn i):=by
  have h1:=HO.out.nw
  exact ret4_of HO.out hi hr hkp hu (fresh_hear _) (cst_hear _) (num_hear _ HO.out.nm) ⟨by rw [now_hear];exact h1.1,h1.2.1,by push_cast;omega⟩ (hearL_len _)
 obtain ⟨u1,u2,u3,rfl⟩:=hu.slice
 clear hu hr hkp
 go_wp2_with fail
 exact ⟨_,_,_,_,_,⟨rfl,rfl,rfl,rfl,rfl,rfl,rfl,rfl,rfl,rfl,rfl⟩,HZ.out⟩
theorem sw4_0 (a:Act)(w W:World)(b:Nat)(v1 v7 v8:Value)(back toks:List Int)(p:Int × Int)(tn:Int)(i:Nat)(kd nn:Int)(o0:Value)(hi:i<300)
  (hF:Fore4 w b v1 v7 v8 s back toks p tn i kd nn o0 a W) (h1:kd≠1) (h2:kd≠2) (h3:kd≠3) (h4:kd≠4) (h7:kd≠7) :
  sw4.wp Tryz.prog (At4 (Sw4 w b v1 v7 v8 s.tok back toks i)) a W:=by
 obtain ⟨sb,mb,m',o1,n1,c1,o2,n2,c2,hv,hT,hO,k0,k1,k2,hM,hMo,hMa,hMl,hMi⟩:=hF
 obtain ⟨t,rfl⟩:=hT.eq
 have HZ:Hid (Ret4 w W b v7 v8 (.slice none 0 0) s s.tok back toks [] p tn i):=by
  have h1:=hO.nw
  exact ret4_of hO hi hO.run (keep_grown (grown_refl _ _)) (rets_nil _ 0) fresh_same cst_same hO.nm ⟨h1.1,h1.2.1,by push_cast;omega⟩ (by simp)
 clear hT hO hM hMo hMa hMl hMi k1 k2
 rw [<-beq_eq_false_iff_ne] at h1 h2 h3 h4 h7
 unfold sw4 rest4 bd4 rnd4 b4
 dsimp only [Tryz.f4,Option.getD,cL,cR,cB,cW]
 go_wp2_with fail
 exact ⟨_,_,_,_,_,⟨rfl,rfl,rfl,rfl,rfl,rfl,rfl,rfl,rfl,rfl,rfl⟩,HZ.out⟩
variable {s:CS}
theorem good_at {id:Int}:∀{p:Int × Int} {l:List PMsg} (_:goodM id p l) (k:Nat) (hk:k<l.length),badM id ((l.take k).foldl (nx id) p) l[k]=false/\(l.take (k+1)).foldl (nx id) p=nx id ((l.take k).foldl (nx id) p) l[k]
 | p,[],_,k,hk=>absurd hk (by simp)
 | p,m :: r,h,0,_=>⟨h.1,rfl⟩
 | p,m :: r,h,k+1,hk=>by
  have:=good_at h.2 k (by simpa using hk)
  simpa using this
theorem step_small {s:CS}{now:Int}(hok:Okc s):∀m ∈ stepM s now,m.ask.kind=2->0<=m.ask.mark/\m.ask.mark<=1000000000000/\0<=m.ask.number/\m.ask.number<=1000000000000:=by
 intro m hm hk
 unfold stepM at hm
 split at hm
 ·simp at hm
 ·split at hm
  ·unfold enterMsgs at hm
   split at hm
   ·simp at hm
    subst hm
    cases hk
   ·simp at hm
  ·obtain ⟨j,c,hj,_,hg⟩:=mem_gather hm
   unfold sendG at hg
   split at hg
   ·simp at hg
    subst hg
    have h1:=hok.last
    have h2:(s.at now).given.L.length<=s.L.length+s.wt.length:=by
     simp only [CS.given,CS.at,List.length_append,List.length_map,List.length_take]
     omega
    have h3:=lead_le (s.at now).given.L
    show (0:Int)<=((lead (s.at now).given.L:Nat):Int)/\((lead (s.at now).given.L:Nat):Int)<=1000000000000/\(0:Int)<=((j+1:Nat):Int)/\((j+1:Nat):Int)<=1000000000000
    omega
   ·simp at hg
theorem fold_small {id:Int}{p:Int × Int}{l:List PMsg}(hp:0<=p.2/\p.2<=1000000000000)(h:∀m ∈ l,m.ask.kind=2->0<=m.ask.number/\m.ask.number<=1000000000000):0<=(l.foldl (nx id) p).2/\(l.foldl (nx id) p).2<=1000000000000:=by
 induction l generalizing p with
 | nil=>exact hp
 | cons m r ih =>
  refine ih ?_ fun x hx=>h x (List.mem_cons_of_mem _ hx)
  unfold nx
  split
  ·rename_i hk
   have:=h m (by simp) hk
   dsimp only
   split <;> omega
  ·exact hp
theorem bad_no {id:Int}{p:Int × Int}{m:PMsg}(h:badM id p m=false)(hk:m.ask.kind=2):m.ask.session=id/\m.ask.mark<m.ask.number/\m.ask.number<=m.ask.mark+2/\(p.2+1<m.ask.number->id≠p.1):=by
 unfold badM at h
 simp [hk] at h
 omega
theorem step_keeps (now:Int):(stepS s now).tok=s.tok/\(stepS s now).last=s.last/\(stepS s now).num=s.num/\(stepS s now).size=s.size/\((stepS s now).now=s.now\/(stepS s now).now=now):=by
 unfold stepS
 split
 ·exact ⟨rfl,rfl,rfl,rfl,.inl rfl⟩
 ·split
  ·unfold enterS
   split <;> exact ⟨rfl,rfl,rfl,rfl,.inr rfl⟩
  ·exact ⟨rfl,rfl,rfl,rfl,.inr rfl⟩
theorem fresh_two {s1 s2:CS}(h1:Fresh s s1 [])(h2:Fresh s1 s2 []):Fresh s s2 []:=by
 intro hi back hb
 obtain ⟨_,_,b1,a1⟩:=h1 hi back hb
 obtain ⟨_,_,b2,a2⟩:=h2 a1 back (by simpa using b1)
 exact ⟨by simp,List.Pairwise.nil,b2,a2⟩
theorem msgs_cmd {A:World}{B:Nat}{v:Value}{l:List PMsg}(hm:MsgsOwn A B v l)(k:Nat)(hk:k<l.length):∃g cap y1 y2 y3,v=.slice (some ⟨g,0,none⟩) l.length cap/\A.cell? ⟨g,k*13+2,none⟩=some (.int .i64 l[k].ask.kind)/\A.cell? ⟨g,k*13+3,none⟩=some (.int .i64 l[k].ask.token)/\A.cell? ⟨g,k*13+4,none⟩=some (.int .i64 l[k].ask.session)/\A.cell? ⟨g,k*13+5,none⟩=some (.int .i64 l[k].ask.number)/\A.cell? ⟨g,k*13+6,none⟩=some (.int .i64 l[k].ask.mark)/\A.cell? ⟨g,k*13+7,none⟩=some (.slice y1 y2 y3):=by
 obtain ⟨g,cap,cs,e,hl,⟨ov,av,rfl,ho,_⟩,_,_,hc⟩:=hm.1.cell k hk
 obtain ⟨y1,y2,y3,rfl,_⟩:=ho.slice
 exact ⟨g,cap,y1,y2,y3,e,hc 2 (by decide),hc 3 (by decide),hc 4 (by decide),hc 5 (by decide),hc 6 (by decide),hc 7 (by decide)⟩
theorem sw4_2 (a:Act)(w W:World)(b:Nat)(v1 v7 v8:Value)(back toks:List Int)(p:Int × Int)(tn:Int)(i:Nat)(kd nn:Int)(o0:Value)(hi:i<300)(_hnn:-9223372036854775808<=nn/\nn<=9223372036854775807)
  (hF:Fore4 w b v1 v7 v8 s back toks p tn i kd nn o0 a W) (hk:kd=2) :
  sw4.wp Tryz.prog (At4 (Sw4 w b v1 v7 v8 s.tok back toks i)) a W:=by
 obtain ⟨sb,mb,m',o1,n1,c1,o2,n2,c2,hv,hT,hO,k0,k1,k2,hM,hMo,hMa,hMl,hMi⟩:=hF
 obtain ⟨t,rfl⟩:=hT.eq
 obtain ⟨tn',htn⟩:∃x,tn+max 0 (nn.tmod 9)=x:=⟨_,rfl⟩
 have r1:nn.tmod 9<9:=Int.tmod_lt_of_pos nn (by decide)
 have hn1:=hO.nw
 have HT:Hid (tn<=tn'/\tn'<=tn+8/\0<=tn'/\tn'<=8*((i+1:Nat):Int)):=by unfold Hid;push_cast;omega
 have HO:Hid (Onc w W b v7 v8 s back toks p tn i):=hO
 have hE:stepE s tn'=0:=by
  have:=HT.out
  unfold stepE
  rw [if_neg (by omega)]
 clear hT hO hM hMo hMa hMl hMi k2 hn1 r1
 subst hk
 unfold sw4 rest4 bd4 rnd4 b4
 dsimp only [Tryz.f4,Option.getD,cL,cR,cB,cW]
 rcases (by omega:(0<nn.tmod 9)\/¬(0<nn.tmod 9)) with hp | hp
 ·have d1:IntKind.i64.wrap (tn+nn.tmod 9)=tn':=by
   have:=HT.out
   rw [IntKind.wrap_i64]
   omega
  go_upto_region 23 with fail
  clear d1 hp htn k0 k1
  go_wp2_with fail
  refine (rstep tn' HO.out.run).mono ?_
  rintro e W2 ⟨v,rfl,hv',hr,hkp⟩
  rw [hE]
  obtain ⟨l,hl⟩:∃l,stepM s tn'=l:=⟨_,rfl⟩
  obtain ⟨s1,hs1⟩:∃x,stepS s tn'=x:=⟨_,rfl⟩
  obtain ⟨w1,w2,w3,rfl,hw2⟩:=hv'.slice
  have H2:Hid (MsgsOwn W2 W.heap.size (.slice w1 w2 w3) l/\Runs w W2 b s1/\Keep W W2/\w2=l.length):=⟨hl ▸ hv',hs1 ▸ hr,hkp,by rw [<-hl];exact hw2⟩
  have HS:Hid (stepM s tn'=l/\stepS s tn'=s1/\stepE s tn'=0):=⟨hl,hs1,hE⟩
  clear hl hs1 hv' hr hkp hw2 hE
  go_wp2_with fail
  refine (rstep tn' H2.out.2.1).mono ?_
  rintro e W3 ⟨v,rfl,hv',hr,hkp⟩
  have ha:stepE s1 tn'=0/\stepM s1 tn'=[]:=by
   have h1:=step_again HO.out.run.ok HS.out.2.2
   rw [HS.out.2.1] at h1
   exact h1
  rw [ha.1]
  rw [ha.2] at hv'
  obtain ⟨z1,z2,z3,rfl,hz2⟩:=hv'.slice
  have hz2':z2=0:=by simpa using hz2
  subst hz2'
  obtain ⟨s2,hs2⟩:∃x,stepS s1 tn'=x:=⟨_,rfl⟩
  have H3:Hid (MsgsOwn W3 W.heap.size (.slice w1 w2 w3) l/\w2=l.length):=⟨keep_msgs hkp H2.out.1,H2.out.2.2.2⟩
  have HG:Hid (goodM s.ses p l/\(∀m ∈ l,m.ask.kind=2->0<=m.ask.mark/\m.ask.mark<=1000000000000/\0<=m.ask.number/\m.ask.number<=1000000000000)/\(0<=p.2/\p.2<=1000000000000)):=by
   have h1:=(step_good (now:=tn') HO.out.run.ok HO.out.run.room HO.out.two HO.out.nm).1
   have h2:=step_small (now:=tn') HO.out.run.ok
   rw [HS.out.1] at h1 h2
   have h3:=HO.out.nm
   have h4:=HO.out.lst
   exact ⟨h1,h2,h3.1,by have:=h3.2.1;omega⟩
  have HR:Hid (Ret4 w W3 b v7 v8 (.slice none 0 0) s2 s.tok back toks [] (l.foldl (nx s.ses) p) tn' i):=by
   have g1:=(step_good (now:=tn') HO.out.run.ok HO.out.run.room HO.out.two HO.out.nm).2
   rw [HS.out.1,HS.out.2.1] at g1
   have k1:=step_keeps (s:=s) tn'
   rw [HS.out.2.1] at k1
   have k2:=step_keeps (s:=s1) tn'
   have g2:=(step_good (now:=tn') H2.out.2.1.ok H2.out.2.1.room (k1.2.2.2.1.trans HO.out.two) g1).2
   rw [ha.2] at g2
   have f1:=fresh_step (s:=s) tn'
   rw [HS.out.2.1] at f1
   have f2:=fresh_step (s:=s1) tn'
   rw [hs2] at k2 g2 f2
   have h1:=HT.out
   have h2:=HO.out.nw
   refine ret4_of HO.out hi (hs2 ▸ hr) (keep_trans H2.out.2.2.1 hkp) (rets_nil _ 0) (fresh_two f1 f2) ⟨k2.2.2.1.trans k1.2.2.1,k2.2.2.2.1.trans k1.2.2.2.1,.inl (k2.1.trans k1.1),?_⟩ g2 ⟨?_,h1.2.2.1,h1.2.2.2⟩ (by simp)
   ·have:=k1.2.1;have:=k2.2.1;omega
   ·rcases k2.2.2.2.2 with e | e <;> rcases k1.2.2.2.2 with e1 | e1 <;> omega
  clear ha hv' hr hkp hs2 hz2
  go_wp2_with fail
  go_loopw [9,10,22] (fun a9 a10 q wr=>∃k:Nat,q=.int .i64 (k:Nat)/\k<=w2/\a9=.int .i64 ((l.take k).foldl (nx s.ses) p).2/\a10=.int .i64 ((l.take k).foldl (nx s.ses) p).1/\Hid (W3.grownBy wr none)) (fun _ _ q _=>w2-(intOf q).toNat)
  case atStart=>exact ⟨0,rfl,Nat.zero_le _,rfl,rfl,grown_refl _ _⟩
  case round =>
   obtain ⟨k,rfl,hk,rfl,rfl,G⟩:=hrel
   by_cases hlt:k<w2
   ·have i1:(k:Int)<(w2:Int):=by omega
    have i2:(0:Int)<=(k:Int):=by omega
    have HLK:Hid (k<w2/\w2<=1034834473200):=⟨hlt,by have:=H3.out.1.2;have:=H3.out.2;omega⟩
    have hkl:k<l.length:=by have:=H3.out.2;omega
    obtain ⟨g,cap,y1,y2,y3,e,q2,q3,q4,q5,q6,q7⟩:=msgs_cmd H3.out.1 k hkl
    simp at e
    obtain ⟨rfl,_,rfl⟩:=e
    obtain ⟨x1,x2⟩:=good_at HG.out.1 k hkl
    have x3:=HG.out.2.1 _ (List.getElem_mem hkl)
    have x4:=fold_small (id:=s.ses) (l:=l.take k) HG.out.2.2 fun m hm hk=>(HG.out.2.1 m (List.mem_of_mem_take hm) hk).2.2
    obtain ⟨m,hm⟩:∃m,l[k]=m:=⟨_,rfl⟩
    obtain ⟨⟨qa,qb⟩,hq⟩:∃q,(l.take k).foldl (nx s.ses) p=q:=⟨_,rfl⟩
    rw [hm] at q2 q3 q4 q5 q6 x1 x2 x3
    rw [hq] at x1 x2 x4
    rw [hq]
    have x5:=bad_no x1
    dsimp only at x4 x5 ⊢
    have d1:IntKind.i64.wrap ((k:Int)+1)=(k:Int)+1:=by have:=HLK.out;rw [IntKind.wrap_i64];omega
    have d2:IntKind.i64.wrap (qb+1)=qb+1:=by rw [IntKind.wrap_i64];omega
    have HX:Hid (((l.take (k+1)).foldl (nx s.ses) p)=nx s.ses (qa,qb) m):=x2
    have HC:Hid (W3.grownBy wr none):=G
    replace q2:=G.out.cell q2 (by simp)
    replace q3:=G.out.cell q3 (by simp)
    replace q4:=G.out.cell q4 (by simp)
    replace q5:=G.out.cell q5 (by simp)
    replace q6:=G.out.cell q6 (by simp)
    replace q7:=G.out.cell q7 (by simp)
    clear hm hq x1 x2 hkl
    go_upto_region 31 with fail
    obtain ⟨w5,hw5,H5⟩:=al1 wr #[.int .i64 m.ask.kind,.int .i64 m.ask.token,.int .i64 m.ask.session,.int .i64 m.ask.number,.int .i64 m.ask.mark,.slice y1 y2 y3] 39
    obtain ⟨b5,hb5⟩:∃x,wr.heap.size=x:=⟨_,rfl⟩
    rw [hw5]
    rw [hb5] at H5 ⊢
    have HI2:Hid (W3.grownBy w5 none):=grown_trans G.out H5.out.2.1
    clear hw5 hb5 q2 q3 q4 q5 q6 q7
    have c0:w5.cell? ⟨b5,0,none⟩=_:=H5.out.1.cell 0
    have c2:w5.cell? ⟨b5,2,none⟩=_:=H5.out.1.cell 2
    have c3:w5.cell? ⟨b5,3,none⟩=_:=H5.out.1.cell 3
    have c4:w5.cell? ⟨b5,4,none⟩=_:=H5.out.1.cell 4
    simp at c0 c2 c3 c4
    by_cases hkd:m.ask.kind=2
    ·obtain ⟨y3',y4',y5',y6'⟩:=x5 hkd
     have x6:=x3 hkd
     rw [hkd] at c0
     rw [y3'] at c2
     have d3:IntKind.i64.wrap (m.ask.mark+2)=m.ask.mark+2:=by rw [IntKind.wrap_i64];omega
     have n1:¬m.ask.number<=m.ask.mark:=by omega
     have n2:¬m.ask.mark+2<m.ask.number:=by omega
     have HK:Hid (m.ask.kind=2):=hkd
     obtain ⟨num,hnum⟩:∃x,m.ask.number=x:=⟨_,rfl⟩
     obtain ⟨mk,hmk⟩:∃x,m.ask.mark=x:=⟨_,rfl⟩
     rw [hmk] at c4 d3 n1 n2
     rw [hnum] at c3 n1 n2 y6' 
     by_cases hqa:s.ses=qa
     ·have HQ:Hid (s.ses=qa):=hqa
      have n3:¬qb+1<num:=fun h=>y6' h hqa
      subst hqa
      have HNX:Hid (nx s.ses (s.ses,qb) m=(s.ses,max qb num)):=by unfold Hid nx;rw [if_pos hkd,if_pos rfl,hnum]
      clear x3 x5 x6 hkd y3' y4' y5' y6' hnum hmk x4
      by_cases hmx:qb<num
      ·have e3:max qb num=num:=by omega
       go_wp2_with fail
       go_roundw
       case rel=>exact ⟨k+1,by go_num,by have:=HLK.out;omega,by rw [HX.out,HNX.out,e3],by rw [HX.out,HNX.out],HI2⟩
       case measure=>have:=HLK.out;simp [intOf];omega
      ·have e3:max qb num=qb:=by omega
       go_wp2_with fail
       go_roundw
       case rel=>exact ⟨k+1,by go_num,by have:=HLK.out;omega,by rw [HX.out,HNX.out,e3],by rw [HX.out,HNX.out],HI2⟩
       case measure=>have:=HLK.out;simp [intOf];omega
     ·have HNX:Hid (nx s.ses (qa,qb) m=(s.ses,num)):=by
       unfold Hid nx
       rw [if_pos hkd,if_neg hqa,hnum]
       have:max 0 num=num:=by omega
       rw [this]
      have e1:(s.ses==qa)=false:=by rw [beq_eq_false_iff_ne];exact hqa
      have e2:(s.ses != qa)=true:=by simp;exact hqa
      have e4:0<num:=by omega
      clear x3 x5 x6 hkd y3' y4' y5' y6' hnum hmk x4 hqa
      by_cases hmx:qb+1<num
      ·go_wp2_with fail
       go_roundw
       case rel=>exact ⟨k+1,by go_num,by have:=HLK.out;omega,by rw [HX.out,HNX.out],by rw [HX.out,HNX.out],HI2⟩
       case measure=>have:=HLK.out;simp [intOf];omega
      ·go_wp2_with fail
       go_roundw
       case rel=>exact ⟨k+1,by go_num,by have:=HLK.out;omega,by rw [HX.out,HNX.out],by rw [HX.out,HNX.out],HI2⟩
       case measure=>have:=HLK.out;simp [intOf];omega
    ·have HNX:Hid (nx s.ses (qa,qb) m=(qa,qb)):=by unfold Hid nx;rw [if_neg hkd]
     have e1:(m.ask.kind==2)=false:=by rw [beq_eq_false_iff_ne];exact hkd
     clear x3 x5 hkd x4
     go_wp2_with fail
     go_roundw
     case rel=>exact ⟨k+1,by go_num,by have:=HLK.out;omega,by rw [HX.out,HNX.out],by rw [HX.out,HNX.out],HI2⟩
     case measure=>have:=HLK.out;simp [intOf];omega
   ·have i1:¬(k:Int)<(w2:Int):=by omega
    have hkn:k=l.length:=by have:=H3.out.2;omega
    subst hkn
    rw [List.take_length]
    go_wp2_with fail
    refine ⟨s2,.slice none 0 0,[],l.foldl (nx s.ses) p,tn',⟨rfl,rfl,rfl,rfl,rfl,rfl,rfl,rfl,rfl,rfl,rfl⟩,?_⟩
    have R:=HR.out
    have h2:=H3.out.2
    exact ⟨R.mid.keep G.out,⟨0,rets_nil _ _⟩,R.fr,R.pw,R.bk,R.bl,R.rn⟩
 ·have d1:IntKind.i64.wrap tn=tn':=by
   have:=HT.out
   rw [IntKind.wrap_i64]
   omega
  go_upto_region 23 with fail
  clear d1 hp htn k0 k1
  go_wp2_with fail
  refine (rstep tn' HO.out.run).mono ?_
  rintro e W2 ⟨v,rfl,hv',hr,hkp⟩
  rw [hE]
  obtain ⟨l,hl⟩:∃l,stepM s tn'=l:=⟨_,rfl⟩
  obtain ⟨s1,hs1⟩:∃x,stepS s tn'=x:=⟨_,rfl⟩
  obtain ⟨w1,w2,w3,rfl,hw2⟩:=hv'.slice
  have H2:Hid (MsgsOwn W2 W.heap.size (.slice w1 w2 w3) l/\Runs w W2 b s1/\Keep W W2/\w2=l.length):=⟨hl ▸ hv',hs1 ▸ hr,hkp,by rw [<-hl];exact hw2⟩
  have HS:Hid (stepM s tn'=l/\stepS s tn'=s1/\stepE s tn'=0):=⟨hl,hs1,hE⟩
  clear hl hs1 hv' hr hkp hw2 hE
  go_wp2_with fail
  refine (rstep tn' H2.out.2.1).mono ?_
  rintro e W3 ⟨v,rfl,hv',hr,hkp⟩
  have ha:stepE s1 tn'=0/\stepM s1 tn'=[]:=by
   have h1:=step_again HO.out.run.ok HS.out.2.2
   rw [HS.out.2.1] at h1
   exact h1
  rw [ha.1]
  rw [ha.2] at hv'
  obtain ⟨z1,z2,z3,rfl,hz2⟩:=hv'.slice
  have hz2':z2=0:=by simpa using hz2
  subst hz2'
  obtain ⟨s2,hs2⟩:∃x,stepS s1 tn'=x:=⟨_,rfl⟩
  have H3:Hid (MsgsOwn W3 W.heap.size (.slice w1 w2 w3) l/\w2=l.length):=⟨keep_msgs hkp H2.out.1,H2.out.2.2.2⟩
  have HG:Hid (goodM s.ses p l/\(∀m ∈ l,m.ask.kind=2->0<=m.ask.mark/\m.ask.mark<=1000000000000/\0<=m.ask.number/\m.ask.number<=1000000000000)/\(0<=p.2/\p.2<=1000000000000)):=by
   have h1:=(step_good (now:=tn') HO.out.run.ok HO.out.run.room HO.out.two HO.out.nm).1
   have h2:=step_small (now:=tn') HO.out.run.ok
   rw [HS.out.1] at h1 h2
   have h3:=HO.out.nm
   have h4:=HO.out.lst
   exact ⟨h1,h2,h3.1,by have:=h3.2.1;omega⟩
  have HR:Hid (Ret4 w W3 b v7 v8 (.slice none 0 0) s2 s.tok back toks [] (l.foldl (nx s.ses) p) tn' i):=by
   have g1:=(step_good (now:=tn') HO.out.run.ok HO.out.run.room HO.out.two HO.out.nm).2
   rw [HS.out.1,HS.out.2.1] at g1
   have k1:=step_keeps (s:=s) tn'
   rw [HS.out.2.1] at k1
   have k2:=step_keeps (s:=s1) tn'
   have g2:=(step_good (now:=tn') H2.out.2.1.ok H2.out.2.1.room (k1.2.2.2.1.trans HO.out.two) g1).2
   rw [ha.2] at g2
   have f1:=fresh_step (s:=s) tn'
   rw [HS.out.2.1] at f1
   have f2:=fresh_step (s:=s1) tn'
   rw [hs2] at k2 g2 f2
   have h1:=HT.out
   have h2:=HO.out.nw
   refine ret4_of HO.out hi (hs2 ▸ hr) (keep_trans H2.out.2.2.1 hkp) (rets_nil _ 0) (fresh_two f1 f2) ⟨k2.2.2.1.trans k1.2.2.1,k2.2.2.2.1.trans k1.2.2.2.1,.inl (k2.1.trans k1.1),?_⟩ g2 ⟨?_,h1.2.2.1,h1.2.2.2⟩ (by simp)
   ·have:=k1.2.1;have:=k2.2.1;omega
   ·rcases k2.2.2.2.2 with e | e <;> rcases k1.2.2.2.2 with e1 | e1 <;> omega
  clear ha hv' hr hkp hs2 hz2
  go_wp2_with fail
  go_loopw [9,10,22] (fun a9 a10 q wr=>∃k:Nat,q=.int .i64 (k:Nat)/\k<=w2/\a9=.int .i64 ((l.take k).foldl (nx s.ses) p).2/\a10=.int .i64 ((l.take k).foldl (nx s.ses) p).1/\Hid (W3.grownBy wr none)) (fun _ _ q _=>w2-(intOf q).toNat)
  case atStart=>exact ⟨0,rfl,Nat.zero_le _,rfl,rfl,grown_refl _ _⟩
  case round =>
   obtain ⟨k,rfl,hk,rfl,rfl,G⟩:=hrel
   by_cases hlt:k<w2
   ·have i1:(k:Int)<(w2:Int):=by omega
    have i2:(0:Int)<=(k:Int):=by omega
    have HLK:Hid (k<w2/\w2<=1034834473200):=⟨hlt,by have:=H3.out.1.2;have:=H3.out.2;omega⟩
    have hkl:k<l.length:=by have:=H3.out.2;omega
    obtain ⟨g,cap,y1,y2,y3,e,q2,q3,q4,q5,q6,q7⟩:=msgs_cmd H3.out.1 k hkl
    simp at e
    obtain ⟨rfl,_,rfl⟩:=e
    obtain ⟨x1,x2⟩:=good_at HG.out.1 k hkl
    have x3:=HG.out.2.1 _ (List.getElem_mem hkl)
    have x4:=fold_small (id:=s.ses) (l:=l.take k) HG.out.2.2 fun m hm hk=>(HG.out.2.1 m (List.mem_of_mem_take hm) hk).2.2
    obtain ⟨m,hm⟩:∃m,l[k]=m:=⟨_,rfl⟩
    obtain ⟨⟨qa,qb⟩,hq⟩:∃q,(l.take k).foldl (nx s.ses) p=q:=⟨_,rfl⟩
    rw [hm] at q2 q3 q4 q5 q6 x1 x2 x3
    rw [hq] at x1 x2 x4
    rw [hq]
    have x5:=bad_no x1
    dsimp only at x4 x5 ⊢
    have d1:IntKind.i64.wrap ((k:Int)+1)=(k:Int)+1:=by have:=HLK.out;rw [IntKind.wrap_i64];omega
    have d2:IntKind.i64.wrap (qb+1)=qb+1:=by rw [IntKind.wrap_i64];omega
    have HX:Hid (((l.take (k+1)).foldl (nx s.ses) p)=nx s.ses (qa,qb) m):=x2
    have HC:Hid (W3.grownBy wr none):=G
    replace q2:=G.out.cell q2 (by simp)
    replace q3:=G.out.cell q3 (by simp)
    replace q4:=G.out.cell q4 (by simp)
    replace q5:=G.out.cell q5 (by simp)
    replace q6:=G.out.cell q6 (by simp)
    replace q7:=G.out.cell q7 (by simp)
    clear hm hq x1 x2 hkl
    go_upto_region 31 with fail
    obtain ⟨w5,hw5,H5⟩:=al1 wr #[.int .i64 m.ask.kind,.int .i64 m.ask.token,.int .i64 m.ask.session,.int .i64 m.ask.number,.int .i64 m.ask.mark,.slice y1 y2 y3] 39
    obtain ⟨b5,hb5⟩:∃x,wr.heap.size=x:=⟨_,rfl⟩
    rw [hw5]
    rw [hb5] at H5 ⊢
    have HI2:Hid (W3.grownBy w5 none):=grown_trans G.out H5.out.2.1
    clear hw5 hb5 q2 q3 q4 q5 q6 q7
    have c0:w5.cell? ⟨b5,0,none⟩=_:=H5.out.1.cell 0
    have c2:w5.cell? ⟨b5,2,none⟩=_:=H5.out.1.cell 2
    have c3:w5.cell? ⟨b5,3,none⟩=_:=H5.out.1.cell 3
    have c4:w5.cell? ⟨b5,4,none⟩=_:=H5.out.1.cell 4
    simp at c0 c2 c3 c4
    by_cases hkd:m.ask.kind=2
    ·obtain ⟨y3',y4',y5',y6'⟩:=x5 hkd
     have x6:=x3 hkd
     rw [hkd] at c0
     rw [y3'] at c2
     have d3:IntKind.i64.wrap (m.ask.mark+2)=m.ask.mark+2:=by rw [IntKind.wrap_i64];omega
     have n1:¬m.ask.number<=m.ask.mark:=by omega
     have n2:¬m.ask.mark+2<m.ask.number:=by omega
     have HK:Hid (m.ask.kind=2):=hkd
     obtain ⟨num,hnum⟩:∃x,m.ask.number=x:=⟨_,rfl⟩
     obtain ⟨mk,hmk⟩:∃x,m.ask.mark=x:=⟨_,rfl⟩
     rw [hmk] at c4 d3 n1 n2
     rw [hnum] at c3 n1 n2 y6' 
     by_cases hqa:s.ses=qa
     ·have HQ:Hid (s.ses=qa):=hqa
      have n3:¬qb+1<num:=fun h=>y6' h hqa
      subst hqa
      have HNX:Hid (nx s.ses (s.ses,qb) m=(s.ses,max qb num)):=by unfold Hid nx;rw [if_pos hkd,if_pos rfl,hnum]
      clear x3 x5 x6 hkd y3' y4' y5' y6' hnum hmk x4
      by_cases hmx:qb<num
      ·have e3:max qb num=num:=by omega
       go_wp2_with fail
       go_roundw
       case rel=>exact ⟨k+1,by go_num,by have:=HLK.out;omega,by rw [HX.out,HNX.out,e3],by rw [HX.out,HNX.out],HI2⟩
       case measure=>have:=HLK.out;simp [intOf];omega
      ·have e3:max qb num=qb:=by omega
       go_wp2_with fail
       go_roundw
       case rel=>exact ⟨k+1,by go_num,by have:=HLK.out;omega,by rw [HX.out,HNX.out,e3],by rw [HX.out,HNX.out],HI2⟩
       case measure=>have:=HLK.out;simp [intOf];omega
     ·have HNX:Hid (nx s.ses (qa,qb) m=(s.ses,num)):=by
       unfold Hid nx
       rw [if_pos hkd,if_neg hqa,hnum]
       have:max 0 num=num:=by omega
       rw [this]
      have e1:(s.ses==qa)=false:=by rw [beq_eq_false_iff_ne];exact hqa
      have e2:(s.ses != qa)=true:=by simp;exact hqa
      have e4:0<num:=by omega
      clear x3 x5 x6 hkd y3' y4' y5' y6' hnum hmk x4 hqa
      by_cases hmx:qb+1<num
      ·go_wp2_with fail
       go_roundw
       case rel=>exact ⟨k+1,by go_num,by have:=HLK.out;omega,by rw [HX.out,HNX.out],by rw [HX.out,HNX.out],HI2⟩
       case measure=>have:=HLK.out;simp [intOf];omega
      ·go_wp2_with fail
       go_roundw
       case rel=>exact ⟨k+1,by go_num,by have:=HLK.out;omega,by rw [HX.out,HNX.out],by rw [HX.out,HNX.out],HI2⟩
       case measure=>have:=HLK.out;simp [intOf];omega
    ·have HNX:Hid (nx s.ses (qa,qb) m=(qa,qb)):=by unfold Hid nx;rw [if_neg hkd]
     have e1:(m.ask.kind==2)=false:=by rw [beq_eq_false_iff_ne];exact hkd
     clear x3 x5 hkd x4
     go_wp2_with fail
     go_roundw
     case rel=>exact ⟨k+1,by go_num,by have:=HLK.out;omega,by rw [HX.out,HNX.out],by rw [HX.out,HNX.out],HI2⟩
     case measure=>have:=HLK.out;simp [intOf];omega
   ·have i1:¬(k:Int)<(w2:Int):=by omega
    have hkn:k=l.length:=by have:=H3.out.2;omega
    subst hkn
    rw [List.take_length]
    go_wp2_with fail
    refine ⟨s2,.slice none 0 0,[],l.foldl (nx s.ses) p,tn',⟨rfl,rfl,rfl,rfl,rfl,rfl,rfl,rfl,rfl,rfl,rfl⟩,?_⟩
    have R:=HR.out
    have h2:=H3.out.2
    exact ⟨R.mid.keep G.out,⟨0,rets_nil _ _⟩,R.fr,R.pw,R.bk,R.bl,R.rn⟩
variable {s:CS}
theorem sw4_all (a:Act)(w W:World)(b:Nat)(v1 v7 v8:Value)(back toks:List Int)(p:Int × Int)(tn:Int)(i:Nat)(kd nn:Int)(o0:Value)(ops:List POp)(hi:i<300)
  (ho:∀y,w.grownBy y none->Ops y o0 ops) (hsl:∃o n c,o0=.slice o n c) (hnn:-9223372036854775808<=nn/\nn<=9223372036854775807) (hF:Fore4 w b v1 v7 v8 s back toks p tn i kd nn o0 a W) :
  sw4.wp Tryz.prog (At4 (Sw4 w b v1 v7 v8 s.tok back toks i)) a W:=by
 by_cases h1:kd=1
 ·exact sw4_1 a w W b v1 v7 v8 back toks p tn i kd nn o0 ops hi ho hsl hF h1
 ·by_cases h2:kd=2
  ·exact sw4_2 a w W b v1 v7 v8 back toks p tn i kd nn o0 hi hnn hF h2
  ·by_cases h3:kd=3
   ·exact sw4_3 a w W b v1 v7 v8 back toks p tn i kd nn o0 hi hF h3
   ·by_cases h4:kd=4
    ·exact sw4_4 a w W b v1 v7 v8 back toks p tn i kd nn o0 hi hF h4
    ·by_cases h7:kd=7
     ·exact sw4_7 a w W b v1 v7 v8 back toks p tn i kd nn o0 hi hF h7
     ·exact sw4_0 a w W b v1 v7 v8 back toks p tn i kd nn o0 hi hF h1 h2 h3 h4 h7
def Top4 (w:World)(b:Nat)(v1:Value)(i:Nat)(a:Act)(W:World):Prop :=
 ∃s v7 v8 back toks p tn,S4 a v1 (.pointer (some ⟨b,0,none⟩)) v7 v8 (.int .i64 (p:Int × Int).2) (.int .i64 p.1) (.int .i64 tn) (.int .i64 (i:Nat))/\Onc w W b v7 v8 s back toks p tn i
def Bot4 (w:World)(b:Nat)(v1:Value)(i:Nat)(a:Act)(W:World):Prop :=
 ∃s v7 v8 back toks p tn,S4 a v1 (.pointer (some ⟨b,0,none⟩)) v7 v8 (.int .i64 (p:Int × Int).2) (.int .i64 p.1) (.int .i64 tn) (.int .i64 (i:Nat))/\Onc w W b v7 v8 s back toks p tn (i+1)
theorem round4 (a:Act)(w A:World)(b:Nat)(so:Option Addr)(sn sc:Nat)(i:Nat)(ss:List PStep)(hs:StepsIn w (.slice so sn sc) ss)(hi:i<ss.length)(hl:i<300)(ht:Top4 w b (.slice so sn sc) i a A) :
  bd4.wp Tryz.prog (At4 (Bot4 w b (.slice so sn sc) i)) a A:=by
 obtain ⟨s,v7,v8,back,toks,p,tn,hS,ho⟩:=ht
 rw [bd4_eq]
 refine fore4 a w A b so sn sc v7 v8 back toks p tn i ss hS ho hs hi hl rest4 _ ?_
 intro a W kd nn o0 ops h1 h2 h3 hF
 rw [rest4_eq]
 refine wp_seq (Code.wp_mono ?_ (sw4_all a w W b _ v7 v8 back toks p tn i kd nn o0 ops hl h1 h2 h3 hF))
 rintro e a1 w1 h
 cases e with
 | normal =>
  obtain ⟨s',v17,rl,p',tn',hU,hR⟩:=h
  refine wp_seq (Code.wp_mono ?_ (look4 a1 w w1 b _ v7 v8 v17 s.tok back toks rl p' tn' i hl hU hR))
  rintro e a2 w2 h
  cases e with
  | normal =>
   obtain ⟨v7',back',hS2,hm,hb,hbl⟩:=h
   refine Code.wp_mono ?_ (toks4 a2 w w2 b _ v7' v8 s.tok back' toks p' tn' i hl hS2 hm hb hbl)
   rintro e a3 w3 h
   cases e with
   | normal =>
    obtain ⟨v7',v8',back',toks',hS3,ho3⟩:=h
    exact ⟨s',v7',v8',back',toks',p',tn',hS3,ho3⟩
   | _=>exact h.elim
  | _=>exact h.elim
 | _=>exact h.elim
def Head4 (w:World)(b:Nat)(v1:Value)(i:Nat)(c:Prop):Exit->Act->World->Prop
 | .normal,a,W=>Top4 w b v1 i a W/\c
 | .exit k,a,W=>Top4 w b v1 i a W/\k=0
 | _,_,_=>False
theorem head4 (a:Act)(w A:World)(b:Nat)(so:Option Addr)(sn sc i:Nat)(ht:Top4 w b (.slice so sn sc) i a A):(cL rnd4).wp Tryz.prog (Head4 w b (.slice so sn sc) i (i<sn/\i<300)) a A:=by
 obtain ⟨s,v7,v8,back,toks,p,tn,hS,ho⟩:=ht
 have HO:Hid (Onc w A b v7 v8 s back toks p tn i):=ho
 obtain ⟨t,rfl⟩:=hS.eq
 clear hS ho
 unfold rnd4 b4
 dsimp only [Tryz.f4,Option.getD,cL,cR,cB,cW]
 by_cases z1:i<sn
 ·have j1:(i:Int)<(sn:Int):=by omega
  by_cases z2:i<300
  ·have j2:(i:Int)<300:=by omega
   go_wp2_with fail
   exact ⟨⟨_,_,_,_,_,_,_,⟨rfl,rfl,rfl,rfl,rfl,rfl,rfl,rfl,rfl,rfl⟩,HO.out⟩,z1,z2⟩
  ·have j2:decide ((i:Int)<300)=false:=by rw [decide_eq_false_iff_not];omega
   go_wp2_with fail
   exact ⟨⟨_,_,_,_,_,_,_,⟨rfl,rfl,rfl,rfl,rfl,rfl,rfl,rfl,rfl,rfl⟩,HO.out⟩,rfl⟩
 ·have j1:¬(i:Int)<(sn:Int):=by omega
  go_wp2_with fail
  exact ⟨⟨_,_,_,_,_,_,_,⟨rfl,rfl,rfl,rfl,rfl,rfl,rfl,rfl,rfl,rfl⟩,HO.out⟩,rfl⟩
theorem inc4 (a:Act)(w A:World)(b:Nat)(v1:Value)(i:Nat)(hi:i<300)(ht:Bot4 w b v1 i a A):(cR (cR rnd4)).wp Tryz.prog (At4 (Top4 w b v1 (i+1))) a A:=by
 obtain ⟨s,v7,v8,back,toks,p,tn,hS,ho⟩:=ht
 have HO:Hid (Onc w A b v7 v8 s back toks p tn (i+1)):=ho
 obtain ⟨t,rfl⟩:=hS.eq
 clear hS ho
 have wi:IntKind.i64.wrap ((i:Int)+1)=((i+1:Nat):Int):=by rw [IntKind.wrap_i64];push_cast;omega
 unfold rnd4 b4
 dsimp only [Tryz.f4,Option.getD,cL,cR,cB,cW]
 go_wp2_with fail
 exact ⟨_,_,_,_,_,_,_,⟨rfl,rfl,rfl,rfl,rfl,rfl,rfl,rfl,rfl,by first | rfl | (simp [sl];done)⟩,HO.out⟩
theorem loop4 (a:Act)(w A:World)(b:Nat)(so:Option Addr)(sn sc:Nat)(ss:List PStep)(hs:StepsIn w (.slice so sn sc) ss)(hn:ss.length=sn)
  (Q:Exit->Act->World->Prop) (hQ:∀i a W,Top4 w b (.slice so sn sc) i a W->Q (.exit 0) a W) (h0:Top4 w b (.slice so sn sc) 0 a A) :
  (Code.loop rnd4).wp Tryz.prog Q a A:=by
 refine wp_loop (fun a W=>∃i,Top4 w b (.slice so sn sc) i a W) (fun a _=>300-(intOf (sl a.tmps 12)).toNat) ⟨0,h0⟩ ?_
 rintro a A ⟨i,ht⟩
 have h12:sl a.tmps 12=.int .i64 (i:Nat):=by
  obtain ⟨_,_,_,_,_,_,_,hS,_⟩:=ht
  exact hS.e12
 rw [rnd4_eq]
 refine wp_seq (Code.wp_mono ?_ (head4 a w A b so sn sc i ht))
 rintro e a1 w1 h1
 cases e with
 | normal =>
  obtain ⟨ht1,hi1,hi2⟩:=h1
  refine wp_seq (wp_block (Code.wp_mono ?_ (round4 a1 w w1 b so sn sc i ss hs (by omega) hi2 ht1)))
  rintro e a2 w2 h2
  cases e with
  | normal =>
   refine Code.wp_mono ?_ (inc4 a2 w w2 b _ i hi2 h2)
   rintro e a3 w3 h3
   cases e with
   | normal =>
    refine ⟨⟨i+1,h3⟩,?_⟩
    have h12':sl a3.tmps 12=.int .i64 ((i+1:Nat):Int):=by
     obtain ⟨_,_,_,_,_,_,_,hS,_⟩:=h3
     exact hS.e12
    show 300-(intOf (sl a3.tmps 12)).toNat<300-(intOf (sl a.tmps 12)).toNat
    rw [h12',h12]
    simp [intOf]
    omega
   | _=>exact h3.elim
  | _=>exact h2.elim
 | exit k =>
  obtain ⟨ht1,rfl⟩:=h1
  exact hQ _ _ _ ht1
 | _=>exact h1.elim
theorem f4_eq:Tryz.f4.body=some (.seq (cL b4) (.seq (cL (cR b4)) (.seq (cL (cR (cR b4))) (.seq (cL (cR (cR (cR b4)))) (.seq (cL (cR (cR (cR (cR b4))))) (.seq (cL (cR (cR (cR (cR (cR b4)))))) (.seq (cL (cR (cR (cR (cR (cR (cR b4))))))) (.seq (.seq (cL (cL (cR (cR (cR (cR (cR (cR (cR b4))))))))) (.block 0 (.loop rnd4))) (cR (cR (cR (cR (cR (cR (cR (cR b4)))))))))))))))) :=rfl
theorem top4_first {w A:World}{b:Nat}{v1:Value}{a:Act}{n:Int}(hn:0<=n/\n<8)(hr:Runs w A b (fresh n smallJob))(hS:S4 a v1 (.pointer (some ⟨b,0,none⟩)) (.slice none 0 0) (.slice none 0 0) (.int .i64 0) (.int .i64 0) (.int .i64 0) (.int .i64 0)):Top4 w b v1 0 a A:=by
 refine ⟨fresh n smallJob,_,_,[],[],(0,0),0,hS,hr,rfl,Row.nil _ _ _,Row.nil _ _ _,by simp [Value.ownBlock],⟨?_,?_,?_,?_⟩,fun y hy=>absurd hy (by simp),⟨Int.le_refl _,Int.le_refl _,fun e=>absurd rfl e⟩,fun y hy=>absurd hy (by simp),.inl rfl,⟨Int.le_refl _,Int.le_refl _⟩,?_,⟨Int.le_refl _,Int.le_refl _,by simp⟩,by simp,by simp⟩
 ·intro j k c d _ h;simp [fresh] at h
 ·intro c d h;simp [fresh] at h
 ·exact List.Pairwise.nil
 ·intro c h;rcases h with h | h <;> simp [fresh] at h
 ·simp only [fresh]
  omega
theorem once4 (n:Int)(v:Value)(ss:List PStep)(w:World)(hs:StepsIn w v ss):Calls Tryz.prog 4 #[.int .i64 n,v] w fun e w'=>e=.returned (.bool true)/\w.grownBy w' none:=by
 obtain ⟨so,sc,rfl,_⟩:=id hs
 obtain ⟨sn,hsn⟩:∃n,ss.length=n:=⟨_,rfl⟩
 rw [hsn] at hs ⊢
 have HS:Hid (StepsIn w (.slice so sn sc) ss/\ss.length=sn):=⟨hs,hsn⟩
 clear hs hsn
 refine calls_of_wp Tryz.func4 f4_eq ?_
 simp only [Tryz.ntmps4,List.size_toArray,List.length_cons,List.length_nil,Nat.reduceAdd,Nat.reduceSub,Array.replicate_succ,Array.replicate_zero,List.push_toArray,List.append_toArray,List.nil_append,List.cons_append]
 obtain ⟨R,hR⟩:∃R,bodyPost Tryz.prog Tryz.f4 (fun e w'=>e=.returned (.bool true)/\w.grownBy w' none)=R:=⟨_,rfl⟩
 rw [hR]
 have HR:Hid (∀(a:Act) (w':World),a.defers=[]->sl a.tmps 4=.bool true->w.grownBy w' none->R .ret a w'):=by
  intro a w' h1 h2 h3
  rw [<-hR]
  exact ⟨h1,_,results_tmp rfl _ _ _,by first | exact ⟨congrArg Ending.returned h2,h3⟩ | (refine ⟨?_,h3⟩;simpa [sl] using h2)⟩
 clear hR
 unfold b4
 dsimp only [Tryz.f4,Option.getD,cL,cR]
 go_wp2_with fail
 refine (job23 w).mono ?_
 rintro e w1 ⟨rfl,hg⟩
 have H1:Hid (w.grownBy w1 none):=hg
 clear hg
 go_wp2_with fail
 refine (new_cl n smallJob w1).mono ?_
 rintro e w2 ⟨hg,hn | ⟨hok,b,rfl,hb,⟨oa,wo,wc,hc⟩⟩⟩
 ·obtain ⟨_,rfl⟩:=hn
  have H2:Hid (w.grownBy w2 none):=grown_trans H1.out hg
  clear hg
  go_wp2_with fail
  refine (known22 w2).mono ?_
  rintro e w9 ⟨rfl,hg⟩
  have H9:Hid (w.grownBy w9 none):=grown_trans H2.out hg
  clear hg
  go_wp2_with fail
  exact HR.out _ _ rfl rfl H9.out
 ·have H2:Hid (Runs w w2 b (fresh n smallJob)):=⟨_,_,oa,wo,wc,hc,grown_trans H1.out hg,fun i hi=>by
   have hi':i=b:=hi
   have:=H1.out.size
   omega⟩
  have hn:0<=n/\n<8:=by
   simp only [okNew,Bool.and_eq_true,decide_eq_true_eq] at hok
   exact hok.1
  have HN:Hid (0<=n/\n<8):=hn
  clear hg hb hc hok hn
  go_wp2_with fail
  refine loop4 _ w w2 b so sn sc ss HS.out.1 HS.out.2 _ ?_ (top4_first HN.out H2.out ⟨rfl,rfl,rfl,rfl,rfl,rfl,rfl,rfl,rfl,rfl⟩)
  rintro i a wc' ⟨s,v7,v8,back,toks,p,tn,hS,ho⟩
  obtain ⟨t,rfl⟩:=hS.eq
  have HO:Hid (w.grownBy wc' none):=ho.run.gr
  clear hS ho
  simp only [Exit.inBlock,Exit.then,if_true]
  refine (‹∀(a:Act) (w:World),_->_› _ _ ?_)
  go_wp2_with fail
  refine (known22 wc').mono ?_
  rintro e w9 ⟨rfl,hg⟩
  have H9:Hid (w.grownBy w9 none):=grown_trans HO.out hg
  clear hg
  go_wp2_with fail
  exact HR.out _ _ rfl rfl H9.out
end Go.Proofs.YtanoabliahcbeaaGreat.Wn
