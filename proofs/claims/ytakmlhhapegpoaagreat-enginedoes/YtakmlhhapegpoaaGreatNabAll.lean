import Derived.Test.YtakmlhhapegpoaaGreatMxzAll
import Derived.Test.YtakmlhhapegpoaaGreatLk
set_option maxHeartbeats 16000000
set_option maxRecDepth 100000
namespace Go.Proofs.YtakmlhhapegpoaaGreat
open Go.RowKit Disk Table
open Names (Str cmpL keyB valueB tabB)
open _root_.Go.Proofs.YtakmlhhapegpoaaGreat.Calls (POp POut PRes opV OpSeg OpIn mayOp Ops OpAt ops_at ops_open chk rds mayCall)
def pcells (o:POp)(k v ol t:Value):List Value:=[.int .i64 o.kind,Str o.table,k,v,.bool o.has,ol,t,.int .i64 o.most]
def One (w:World)(u:Value)(o:POp):Prop:=∃ao k v ol t,u=.slice ao 1 1/\Vec w 8 u 1 (pcells o k v ol t)/\OpSeg w k v ol t o
theorem One.grown {w w':World}{u:Value}{o:POp}(h:One w u o)(hg:w.grownBy w' none):One w' u o:=by
 obtain ⟨ao,k,v,ol,t,e,h1,h2⟩:=h
 exact ⟨ao,k,v,ol,t,e,h1.grown hg,h2.grown hg⟩
theorem vec_ops1 {w:World}{u k v ol t:Value}{o:POp}(h:Vec w 8 u 1 (pcells o k v ol t))(hs:OpSeg w k v ol t o):Ops w u [o]:=by
 obtain ⟨ao,cap,e,_,_,_,_,h6⟩:=h
 refine ⟨ao,cap,e,by simp,fun j hj=>?_⟩
 have hj0:j=0:=by simpa using hj
 subst hj0
 obtain ⟨b,off,e0,c0⟩:=h6 0 _ rfl
 have hh:∀j u,(pcells o k v ol t)[j]? = some u->w.cell? ⟨b,off+j,none⟩=some u:=fun j u hj=>by
  obtain ⟨b',off',e',c'⟩:=h6 j u hj
  rw [e0] at e'
  simp at e'
  obtain ⟨rfl,rfl⟩:=e'
  exact c'
 exact ⟨b,off,k,v,ol,t,e0,⟨hh 0 _ rfl,hh 1 _ rfl,hh 2 _ rfl,hh 3 _ rfl,hh 4 _ rfl,hh 5 _ rfl,hh 6 _ rfl,hh 7 _ rfl⟩,hs⟩
theorem vec_ops2 {w:World}{u k v ol t k' v' ol' t':Value}{o p:POp}(h:Vec w 8 u 2 (pcells o k v ol t ++ pcells p k' v' ol' t'))(hs:OpSeg w k v ol t o)(hp:OpSeg w k' v' ol' t' p):Ops w u [o,p]:=by
 obtain ⟨ao,cap,e,_,_,_,_,h6⟩:=h
 refine ⟨ao,cap,e,by simp,fun j hj=>?_⟩
 obtain ⟨b,off,e0,c0⟩:=h6 0 _ rfl
 have hh:∀j u,(pcells o k v ol t ++ pcells p k' v' ol' t')[j]? = some u->w.cell? ⟨b,off+j,none⟩=some u:=fun j u hj=>by
  obtain ⟨b',off',e',c'⟩:=h6 j u hj
  rw [e0] at e'
  simp at e'
  obtain ⟨rfl,rfl⟩:=e'
  exact c'
 match j,hj with
 | 0,_=>exact ⟨b,off,k,v,ol,t,e0,⟨hh 0 _ rfl,hh 1 _ rfl,hh 2 _ rfl,hh 3 _ rfl,hh 4 _ rfl,hh 5 _ rfl,hh 6 _ rfl,hh 7 _ rfl⟩,hs⟩
 | 1,_=>exact ⟨b,off,k',v',ol',t',e0,⟨hh 8 _ rfl,hh 9 _ rfl,hh 10 _ rfl,hh 11 _ rfl,hh 12 _ rfl,hh 13 _ rfl,hh 14 _ rfl,hh 15 _ rfl⟩,hp⟩
 | j+2,hj=>exact absurd hj (by simp)
theorem One.ops {w:World}{u:Value}{o:POp}(h:One w u o):Ops w u [o]:=by
 obtain ⟨ao,k,v,ol,t,e,h1,h2⟩:=h
 exact vec_ops1 h1 h2
def putO (k v:Bs):POp:=⟨2,[116],k,v,false,[],[],0⟩
def getO (k:Bs):POp:=⟨1,[116],k,[],false,[],[],0⟩
theorem vec_block8 {w:World}{b:Nat}{x0 x1 x2 x3 x4 x5 x6 x7:Value}(hb:Blk w b 67 #[x0,x1,x2,x3,x4,x5,x6,x7]):Vec w 8 (.slice (some ⟨b,0,none⟩) 1 1) 1 [x0,x1,x2,x3,x4,x5,x6,x7]:=by
 refine ⟨_,1,rfl,Nat.le_refl _,by unfold maxLen;omega,by simp,rfl,fun j u hj=>⟨_,0,rfl,?_⟩⟩
 rw [hb.cell,Nat.zero_add]
 simpa using hj
theorem res37 {w:World}{fn:Func}{tmps:Array Value}{p rb:Nat}{x:Value}(hf:fn.results=#[.cell p 37])(hp:tmps.getD p undef=.pointer (some ⟨rb,0,none⟩))(hr:Blk w rb 37 #[x]):(results fn tmps).run Tryz.prog w=.ok (.agg #[x]) w:=results_cell_row hf tmps w rb 37 _ (0,0) _ hp hr Tryz.underlying37 rfl (by kernel_rfl)
theorem seg_set37 {w:World}{b:Nat}{a:Option Addr}{n c:Nat}{v x:Value}{L:Bs}(h:Seg w v L)(hb:Blk w b 37 #[.slice a n c]):Seg (w.setCell ⟨b,0,none⟩ x) v L:=h.of_cells fun b' j y hy=>by
 refine (grown_setCell w b 0 x).cell hy ?_
 intro e
 simp at e
 subst e
 rw [hb.cell] at hy
 rcases j with _ | j
 ·simp at hy
 ·simp at hy
theorem opIn_put (k v:Bs):OpIn (putO k v):=⟨by simp [putO],by simp [putO],by simp [putO],by simp [putO],by simp [putO]⟩
theorem opIn_get (k:Bs):OpIn (getO k):=⟨by simp [getO],by simp [getO],by simp [getO],by simp [getO],by simp [getO]⟩
theorem put25 (k v:Bs)(hk:k.length<=1000000)(hv:v.length<=1000000)(w:World):Calls Tryz.prog 25 #[Str k,Str v] w fun e w'=>∃u,e=.returned (.agg #[u])/\One w' u (putO k v)/\w.grownBy w' none:=by
 have HK:Hid (k.length<=1000000/\v.length<=1000000):=⟨hk,hv⟩
 obtain ⟨w1,hw1,H1⟩:=al w #[.slice none 0 0] 37
 have cv1:=Calls.conv_bytes w1 k
 obtain ⟨w2,hw2⟩:∃W,Lib.bytesWorld w1 5 ⟨k.toArray⟩=W:=⟨_,rfl⟩
 have G2:Hid (w1.grownBy w2 none/\Seg w2 (.slice (some ⟨w1.heap.size,0,none⟩) k.length (grownCap w1 k.length 0 5)) k):=by
  rw [<-hw2]
  exact ⟨Calls.bytes_grown _ _,Calls.bytes_seg _ _ (by omega)⟩
 rw [hw2] at cv1
 have cv2:=Calls.conv_bytes w2 v
 obtain ⟨w3,hw3⟩:∃W,Lib.bytesWorld w2 5 ⟨v.toArray⟩=W:=⟨_,rfl⟩
 have G3:Hid (w2.grownBy w3 none/\Seg w3 (.slice (some ⟨w2.heap.size,0,none⟩) v.length (grownCap w2 v.length 0 5)) v):=by
  rw [<-hw3]
  exact ⟨Calls.bytes_grown _ _,Calls.bytes_seg _ _ (by omega)⟩
 rw [hw3] at cv2
 generalize grownCap w1 k.length 0 5=ck at cv1 G2
 generalize grownCap w2 v.length 0 5=cw at cv2 G3
 generalize w1.heap.size=s1 at cv1 G2
 generalize w2.heap.size=s2 at cv2 G3
 obtain ⟨w4,hw4,H4⟩:=al w3 #[.int .i64 2,.string ⟨#[116]⟩,.slice (some ⟨s1,0,none⟩) k.length ck,.slice (some ⟨s2,0,none⟩) v.length cw,.bool false,.slice none 0 0,.slice none 0 0,.int .i64 0] 67
 have hrb:=((H1.out.1.grown G2.out.1 (by simp)).grown G3.out.1 (by simp)).grown H4.out.2.1 (by simp)
 have HRB:Hid (Blk w4 w.heap.size 37 #[.slice none 0 0]):=hrb
 have f0:=hrb.free 0
 have v0:=hrb.cell 0
 simp at v0
 unfold Str
 clear hw2 hw3 hk hv hrb
 go_enter Tryz.func25,Tryz.ntmps25
 go_wp2_with fail
 refine bodyPost_ret (v:=_) (res37 rfl rfl (HRB.out.store 0 (.slice (some ⟨w3.heap.size,0,none⟩) 1 1))) rfl ?_
 have g5:=grown_setCell w4 w.heap.size 0 (.slice (some ⟨w3.heap.size,0,none⟩) 1 1)
 have hs1:=(H1.out.2.1.size)
 have hlt:w.heap.size<w3.heap.size:=by have h1:=H1.out.2.2;have h2:=G2.out.1.size;have h3:=G3.out.1.size;omega
 have hb5:Blk (w4.setCell ⟨w.heap.size,0,none⟩ (.slice (some ⟨w3.heap.size,0,none⟩) 1 1)) w3.heap.size 67 _:=H4.out.1.grown g5 (by simp;omega)
 refine ⟨_,rfl,⟨_,_,_,_,_,rfl,vec_block8 hb5,⟨seg_set37 ((G2.out.2.grown G3.out.1).grown H4.out.2.1) HRB.out,seg_set37 (G3.out.2.grown H4.out.2.1) HRB.out,seg_nil _,seg_nil _,opIn_put k v⟩⟩,?_⟩
 exact grown_new (grown_trans H1.out.2.1 (grown_trans G2.out.1 (grown_trans G3.out.1 H4.out.2.1))) g5 (fun x hx=>by simp at hx;omega)
theorem get27 (k:Bs)(hk:k.length<=1000000)(w:World):Calls Tryz.prog 27 #[Str k] w fun e w'=>∃u,e=.returned (.agg #[u])/\One w' u (getO k)/\w.grownBy w' none:=by
 obtain ⟨w1,hw1,H1⟩:=al w #[.slice none 0 0] 37
 have cv1:=Calls.conv_bytes w1 k
 obtain ⟨w2,hw2⟩:∃W,Lib.bytesWorld w1 5 ⟨k.toArray⟩=W:=⟨_,rfl⟩
 have G2:Hid (w1.grownBy w2 none/\Seg w2 (.slice (some ⟨w1.heap.size,0,none⟩) k.length (grownCap w1 k.length 0 5)) k):=by
  rw [<-hw2]
  exact ⟨Calls.bytes_grown _ _,Calls.bytes_seg _ _ (by omega)⟩
 rw [hw2] at cv1
 generalize grownCap w1 k.length 0 5=ck at cv1 G2
 generalize w1.heap.size=s1 at cv1 G2
 obtain ⟨w4,hw4,H4⟩:=al w2 #[.int .i64 1,.string ⟨#[116]⟩,.slice (some ⟨s1,0,none⟩) k.length ck,.slice none 0 0,.bool false,.slice none 0 0,.slice none 0 0,.int .i64 0] 67
 have hrb:=(H1.out.1.grown G2.out.1 (by simp)).grown H4.out.2.1 (by simp)
 have HRB:Hid (Blk w4 w.heap.size 37 #[.slice none 0 0]):=hrb
 have f0:=hrb.free 0
 have v0:=hrb.cell 0
 simp at v0
 unfold Str
 clear hw2 hk hrb
 go_enter Tryz.func27,Tryz.ntmps27
 go_wp2_with fail
 refine bodyPost_ret (v:=_) (res37 rfl rfl (HRB.out.store 0 (.slice (some ⟨w2.heap.size,0,none⟩) 1 1))) rfl ?_
 have g5:=grown_setCell w4 w.heap.size 0 (.slice (some ⟨w2.heap.size,0,none⟩) 1 1)
 have hlt:w.heap.size<w2.heap.size:=by have h1:=H1.out.2.2;have h2:=G2.out.1.size;omega
 have hb5:Blk (w4.setCell ⟨w.heap.size,0,none⟩ (.slice (some ⟨w2.heap.size,0,none⟩) 1 1)) w2.heap.size 67 _:=H4.out.1.grown g5 (by simp;omega)
 refine ⟨_,rfl,⟨_,_,_,_,_,rfl,vec_block8 hb5,⟨seg_set37 (G2.out.2.grown H4.out.2.1) HRB.out,seg_nil _,seg_nil _,seg_nil _,opIn_get k⟩⟩,?_⟩
 exact grown_new (grown_trans H1.out.2.1 (grown_trans G2.out.1 H4.out.2.1)) g5 (fun x hx=>by simp at hx;omega)
theorem Tryz.info67:(Tryz.prog.info? 67).map (fun i=>(i.zero,i.size,i.bytes))=some (some (.agg #[.int .i64 0,.string ⟨#[]⟩,.slice none 0 0,.slice none 0 0,.bool false,.slice none 0 0,.slice none 0 0,.int .i64 0]),8,136):=by kernel_rfl
theorem ut35:Tryz.prog.underlying 35=some (.slice 67):=by kernel_rfl
theorem appP_at {ops:Array Oper}{rest:List Oper}{o:Oper}{a:Act}{Q:Exit->Act->World->Prop}(w:World)(hw:Region.wanted o (yielded ops a.tmps)=true)(s x:Operand)(ho:o.op=.call { callee:=.builtin .append,args:=#[s,x],argTypes:=#[35,35] })
  (u v:Value) (p q:POp) (hs:a.eval s=u) (hx:a.eval x=v) (hu:One w u p) (hv:One w v q)
  (h:∀r w',Ops w' r [p,q]->w.grownBy w' none->wpList Tryz.prog ops Q rest (a.put o.dst r) w'):wpList Tryz.prog ops Q (o :: rest) a w:=by
 obtain ⟨ao,k,v1,ol,t,e,h1,h2⟩:=hu
 obtain ⟨ao',k',v1',ol',t',e',h1',h2'⟩:=hv
 have hone:∀y ∈ pcells q k' v1' ol' t',y.oneCell'=true:=by
  intro y hy
  simp [pcells] at hy
  rcases hy with rfl | rfl | rfl | rfl | rfl | rfl | rfl | rfl
  ·rfl
  ·rfl
  ·exact seg_one h2'.key
  ·exact seg_one h2'.value
  ·rfl
  ·exact seg_one h2'.old
  ·exact seg_one h2'.to
  ·rfl
 refine app_at w hw s x 35 67 _ 8 136 Tryz.info67 ut35 rfl (by decide) ho w.heap.size u 1 _ v 1 _ hs hx (.inr ⟨⟨ao,e⟩,h1⟩) h1' hone (by omega) (by unfold maxLen;omega) (Nat.le_refl _) ?_
 intro r w' hA hG _
 have hg:=hG.none (Nat.le_refl _)
 exact h r w' (vec_ops2 hA.vec (h2.grown hg) (h2'.grown hg)) hg
def X0:Nat->Prop:=fun _=>False
theorem x0 (w:World):∀g,X0 g->g<w.heap.size:=fun _ h=>h.elim
def D1:DB:=[([116],[([97],[49])])]
theorem new_nil:newD [] [] []=some []:=by unfold newD;rfl
theorem chk_a:chk [putO [97] [49]]=0:=by kernel_rfl
theorem chk_bc:chk [putO [98] [50,50],putO [99] [51]]=0:=by kernel_rfl
theorem chk_g:chk [getO [97]]=0:=by kernel_rfl
theorem rds_g:rds [getO [97]]=true:=by kernel_rfl
theorem chk_l:chk [putO [97] [49,50,51,52,53,54,55,56,57]]=0:=by kernel_rfl
theorem call_a:callD (2,9) [] [] [putO [97] [49]]=.ok ([⟨false,[],[]⟩],D1):=by kernel_rfl
theorem call_bc:callD (2,9) D1 [] [putO [98] [50,50],putO [99] [51]]=.error (2,1):=by kernel_rfl
theorem call_g:callD (2,9) D1 [] [getO [97]]=.ok ([⟨true,[49],[]⟩],D1):=by kernel_rfl
theorem call_l:callD (2,9) D1 [] [putO [97] [49,50,51,52,53,54,55,56,57]]=.error (3,0):=by kernel_rfl
theorem len_D1:lenD D1=1:=by kernel_rfl
theorem size_D1:sizeD D1=2:=by kernel_rfl
theorem dbq_nil {q:Int × Int}(h:mayQ q=true):DbQ q []:=by
 refine ⟨good_nil,h,?_⟩
 unfold mayQ at h
 simp at h
 unfold aboveD
 rw [if_neg (by simp [lenD];omega),if_neg (by simp [sizeD];omega)]
theorem new15_nil (q:Int × Int)(w:World)(hq:mayQ q=true):Calls Tryz.prog 15 #[quoV q,.slice none 0 0] w fun e w'=>∃b,e=.returned (.tuple #[.pointer (some ⟨b,0,none⟩),.int .i64 0])/\w.heap.size<=b/\Eng X0 w' b q []/\w.grownBy w' none:=by
 refine (new15 (X:=X0) q (.slice none 0 0) [] (by simp) (by simp) w (x0 w) (nms_nil w)).mono ?_
 rintro e w' ⟨g,h | h | h⟩
 ·obtain ⟨_,D,b,hD,_,_,rfl,hb,hE⟩:=h
  rw [new_nil] at hD
  simp at hD
  subst hD
  exact ⟨b,rfl,hb,hE,g⟩
 ·obtain ⟨_,D,hD,ha,_⟩:=h
  rw [new_nil] at hD
  simp at hD
  subst hD
  exact absurd (dbq_nil hq).within ha
 ·obtain ⟨h,_⟩:=h
  rcases h with h | h
  ·rw [hq] at h;cases h
  ·rw [new_nil] at h;cases h
theorem outs_one {w:World}{B:Nat}{v:Value}{o:POut}(h:OutsN w B v [o]):∃g cap x y,v=.slice (some ⟨g,0,none⟩) 1 cap/\1<=cap/\Hid (OutsN w B (.slice (some ⟨g,0,none⟩) 1 cap) [o]/\∀w',OutsN w' B (.slice (some ⟨g,0,none⟩) 1 cap) [o]->True)/\w.cell? ⟨g,0,none⟩=some (.bool o.has)/\w.cell? ⟨g,1,none⟩=some x/\w.cell? ⟨g,2,none⟩=some y/\Disk.Own w B x o.value:=by
 have h':=h
 obtain ⟨ks,h1,h2,_⟩:=h
 rcases h1.2 with ⟨_,e⟩ | ⟨g,cap,cur,e,hb,hg,hc,_⟩
 ·simp at e
 ·have hl:0<ks.length:=by rw [h2.1];simp
  obtain ⟨c0,c1,c2⟩:=ocells_at ks 0 hl
  have hk:=h2.2 0 hl (by simp)
  have cell:=World.ownsRow.cells h1 (g:=g) (by rw [e];rfl)
  subst e
  refine ⟨g,cap,ks[0].2.1,ks[0].2.2,rfl,hc,⟨h',fun _ _=>trivial⟩,?_,?_,?_,hk.value⟩
  ·have:=cell 0 _ c0
   rw [hk.has] at this
   simpa [addr_add] using this
  ·have:=cell 1 _ c1
   simpa [addr_add] using this
  ·have:=cell 2 _ c2
   simpa [addr_add] using this
theorem outs_do {w w':World}{b m B:Nat}{q:Int × Int}{v:Value}{l:List POut}(h:OutsN w B v l)(hb:EngB w b q m)(hg:w.grownBy w' (some b)):OutsN w' B v l:=h.off hg hb (by decide) (by decide) (by decide)
theorem blk_do {w w':World}{b m x:Nat}{q:Int × Int}{c:Array Value}(h:Blk w x 49 c)(hb:EngB w b q m)(hg:w.grownBy w' (some b)):Blk w' x 49 c:=h.grown hg (fun e=>by
 simp at e
 subst e
 unfold EngB Blk at hb
 unfold Blk at h
 rw [h] at hb
 simp at hb)
theorem field37 (a:Option Addr)(n c:Nat)(w:World):(Instr.field 37 (.agg #[.slice a n c]) 0).run Tryz.prog w=.ok (.slice a n c) w:=by kernel_rfl
theorem known7 (w:World):Calls Tryz.prog 7 #[] w fun e w'=>e=.returned (.bool true)/\w.grownBy w' none:=by
 have hfd:=field37
 go_enter Tryz.func7,Tryz.ntmps7
 go_wp2_with fail
 refine (new15_nil (2,9) w (by kernel_rfl)).mono ?_
 rintro e w1 ⟨b,rfl,hb,hE,g1⟩
 obtain ⟨m1,he1,hm1⟩:=hE
 have H1:Hid (EngB w1 b (2,9) m1/\EM X0 w1 m1 []/\w.grownBy w1 none/\w.heap.size<=b):=⟨he1,hm1,g1,hb⟩
 clear he1 hm1 g1 hb
 go_wp2_with (go_at_call 16;refine (num16 0 w1).mono ?_;rintro e w3 ⟨rfl,hw⟩;rw [hw];clear hw)
 refine (put25 [97] [49] (by decide) (by decide) w1).mono ?_
 rintro e w2 ⟨u2,rfl,ho2,g2⟩
 obtain ⟨a2,_,_,_,_,rfl,_,_⟩:=id ho2
 have H2:Hid (One w2 (.slice a2 1 1) (putO [97] [49])/\EngB w2 b (2,9) m1/\EM X0 w2 m1 []/\w.grownBy w2 none):=⟨ho2,Blk.grown H1.out.1 g2 (by simp),H1.out.2.1.grown g2,grown_trans H1.out.2.2.1 g2⟩
 clear ho2 g2
 go_wp2_with fail
 refine (do17 (X:=X0) b m1 (2,9) [] (dbq_nil (by kernel_rfl)) (.slice a2 1 1) [putO [97] [49]] w2 (x0 w2) H2.out.2.1 H2.out.2.2.1 H2.out.1.ops).mono ?_
 rintro e w3 (⟨hC,_⟩ | ⟨_,g3,⟨outs,D',hcall,hdb,hE3,v3,rfl,hO3⟩ | ⟨_,_,hcall,_⟩⟩)
 ·exact absurd chk_a hC
 case inr.inr=>rw [call_a] at hcall;cases hcall
 rw [call_a] at hcall
 simp at hcall
 obtain ⟨rfl,rfl⟩:=hcall
 obtain ⟨m3,he3,hm3⟩:=hE3
 obtain ⟨s3,n3,c3,rfl,hn3,_,_⟩:=hO3.shape
 simp at hn3
 subst hn3
 have H3:Hid (EngB w3 b (2,9) m3/\EM X0 w3 m3 D1/\DbQ (2,9) D1/\w.grownBy w3 none/\OutsN w3 w2.heap.size (.slice s3 1 c3) [⟨false,[],[]⟩]):=⟨he3,hm3,hdb,grown_new H2.out.2.2.2 g3 (fun x hx=>by simp at hx;have:=H1.out.2.2.2;omega),hO3⟩
 clear he3 hm3 hdb g3 hO3
 unfold resV3
 go_wp2_with fail
 obtain ⟨w4,hw4,H4⟩:=al w3 #[.int .i64 0,.int .i64 0,.slice s3 1 c3] 49
 rw [hw4]
 clear hw4
 obtain ⟨r1,hr1⟩:∃r,w3.heap.size=r:=⟨_,rfl⟩
 have K4:Hid (EngB w4 b (2,9) m3/\EM X0 w4 m3 D1/\w.grownBy w4 none/\OutsN w4 w2.heap.size (.slice s3 1 c3) [⟨false,[],[]⟩]/\Blk w4 r1 49 #[.int .i64 0,.int .i64 0,.slice s3 1 c3]):=⟨Blk.grown H3.out.1 H4.out.2.1 (by simp),H3.out.2.1.grown H4.out.2.1,grown_trans H3.out.2.2.2.1 H4.out.2.1,H3.out.2.2.2.2.grown H4.out.2.1,by rw [<-hr1];exact H4.out.1⟩
 rw [hr1]
 clear hr1 H4
 refine (put25 [98] [50,50] (by decide) (by decide) w4).mono ?_
 rintro e w5 ⟨u5,rfl,ho5,g5⟩
 obtain ⟨a5,_,_,_,_,rfl,_,_⟩:=id ho5
 have H5:Hid (One w5 (.slice a5 1 1) (putO [98] [50,50])/\w4.grownBy w5 none):=⟨ho5,g5⟩
 clear ho5 g5
 go_wp2_with fail
 refine (put25 [99] [51] (by decide) (by decide) w5).mono ?_
 rintro e w6 ⟨u6,rfl,ho6,g6⟩
 obtain ⟨a6,_,_,_,_,rfl,_,_⟩:=id ho6
 have H6:Hid (One w6 (.slice a5 1 1) (putO [98] [50,50])/\One w6 (.slice a6 1 1) (putO [99] [51])/\w4.grownBy w6 none):=⟨H5.out.1.grown g6,ho6,grown_trans H5.out.2 g6⟩
 clear ho6 g6
 go_wp2_with (at_builtin;refine appP_at w6 rfl _ _ rfl (.slice a5 1 1) (.slice a6 1 1) (putO [98] [50,50]) (putO [99] [51]) rfl rfl H6.out.1 H6.out.2.1 ?_)
 intro u7 w7 ho7 g7
 obtain ⟨a7,n7,c7,rfl,hn7,_,_⟩:=ops_open ho7
 simp at hn7
 subst hn7
 have H7:Hid (Ops w7 (.slice a7 2 c7) [putO [98] [50,50],putO [99] [51]]/\w4.grownBy w7 none):=⟨ho7,grown_trans H6.out.2.2 g7⟩
 clear ho7 g7
 go_wp2_with fail
 refine (do17 (X:=X0) b m3 (2,9) D1 H3.out.2.2.1 (.slice a7 2 c7) [putO [98] [50,50],putO [99] [51]] w7 (x0 w7) (Blk.grown K4.out.1 H7.out.2 (by simp)) (K4.out.2.1.grown H7.out.2) H7.out.1).mono ?_
 rintro e w8 (⟨hC,_⟩ | ⟨_,g8,⟨outs,D',hcall,_⟩ | ⟨c8,n8,hcall,he8,hm8,rfl⟩⟩)
 ·exact absurd chk_bc hC
 ·rw [call_bc] at hcall;cases hcall
 rw [call_bc] at hcall
 simp at hcall
 obtain ⟨rfl,rfl⟩:=hcall
 have hbw7:EngB w7 b (2,9) m3:=Blk.grown K4.out.1 H7.out.2 (by simp)
 have H8:Hid (EngB w8 b (2,9) m3/\EM X0 w8 m3 D1/\w.grownBy w8 none/\OutsN w8 w2.heap.size (.slice s3 1 c3) [⟨false,[],[]⟩]/\Blk w8 r1 49 #[.int .i64 0,.int .i64 0,.slice s3 1 c3]):=⟨he8,hm8,grown_new (grown_trans K4.out.2.2.1 H7.out.2) g8 (fun x hx=>by simp at hx;have:=H1.out.2.2.2;omega),outs_do (K4.out.2.2.2.1.grown H7.out.2) hbw7 g8,blk_do (K4.out.2.2.2.2.grown H7.out.2 (by simp)) hbw7 g8⟩
 clear he8 hm8 g8 hbw7
 unfold resV3
 go_wp2_with fail
 obtain ⟨w9,hw9,H9⟩:=al w8 #[.int .i64 2,.int .i64 1,.slice none 0 0] 49
 rw [hw9]
 clear hw9
 obtain ⟨r2,hr2⟩:∃r,w8.heap.size=r:=⟨_,rfl⟩
 have K9:Hid (EngB w9 b (2,9) m3/\EM X0 w9 m3 D1/\w.grownBy w9 none/\OutsN w9 w2.heap.size (.slice s3 1 c3) [⟨false,[],[]⟩]/\Blk w9 r1 49 #[.int .i64 0,.int .i64 0,.slice s3 1 c3]/\Blk w9 r2 49 #[.int .i64 2,.int .i64 1,.slice none 0 0]):=⟨Blk.grown H8.out.1 H9.out.2.1 (by simp),H8.out.2.1.grown H9.out.2.1,grown_trans H8.out.2.2.1 H9.out.2.1,H8.out.2.2.2.1.grown H9.out.2.1,H8.out.2.2.2.2.grown H9.out.2.1 (by simp),by rw [<-hr2];exact H9.out.1⟩
 rw [hr2]
 clear hr2 H9
 refine (get27 [97] (by decide) w9).mono ?_
 rintro e w10 ⟨u10,rfl,ho10,g10⟩
 obtain ⟨a10,_,_,_,_,rfl,_,_⟩:=id ho10
 have H10:Hid (One w10 (.slice a10 1 1) (getO [97])/\w9.grownBy w10 none):=⟨ho10,g10⟩
 clear ho10 g10
 go_wp2_with fail
 refine (look26 (X:=X0) b m3 (2,9) D1 H3.out.2.2.1 (.slice a10 1 1) [getO [97]] w10 (x0 w10) (Blk.grown K9.out.1 H10.out.2 (by simp)) (K9.out.2.1.grown H10.out.2) H10.out.1.ops).mono ?_
 rintro e w11 ⟨g11,⟨hC,_⟩ | ⟨_,hC,_⟩ | ⟨_,_,outs,D',hcall,v11,rfl,hO11⟩ | ⟨_,_,_,_,hcall,_⟩⟩
 ·exact absurd chk_g hC
 ·rw [rds_g] at hC;cases hC
 case inr.inr.inr=>rw [call_g] at hcall;cases hcall
 rw [call_g] at hcall
 simp at hcall
 obtain ⟨rfl,_⟩:=hcall
 obtain ⟨s11,n11,c11,rfl,hn11,_,_⟩:=hO11.shape
 simp at hn11
 subst hn11
 have H11:Hid (EngB w11 b (2,9) m3/\EM X0 w11 m3 D1/\w.grownBy w11 none/\OutsN w11 w2.heap.size (.slice s3 1 c3) [⟨false,[],[]⟩]/\Blk w11 r1 49 #[.int .i64 0,.int .i64 0,.slice s3 1 c3]/\Blk w11 r2 49 #[.int .i64 2,.int .i64 1,.slice none 0 0]/\OutsN w11 w10.heap.size (.slice s11 1 c11) [⟨true,[49],[]⟩]):=by
  have g:=grown_trans H10.out.2 g11
  exact ⟨Blk.grown K9.out.1 g (by simp),K9.out.2.1.grown g,grown_trans K9.out.2.2.1 g,K9.out.2.2.2.1.grown g,K9.out.2.2.2.2.1.grown g (by simp),K9.out.2.2.2.2.2.grown g (by simp),hO11⟩
 clear hO11 g11
 unfold resV3
 go_wp2_with fail
 obtain ⟨w12,hw12,H12⟩:=al w11 #[.int .i64 0,.int .i64 0,.slice s11 1 c11] 49
 rw [hw12]
 clear hw12
 obtain ⟨r3,hr3⟩:∃r,w11.heap.size=r:=⟨_,rfl⟩
 have K12:Hid (EngB w12 b (2,9) m3/\EM X0 w12 m3 D1/\w.grownBy w12 none/\OutsN w12 w2.heap.size (.slice s3 1 c3) [⟨false,[],[]⟩]/\Blk w12 r1 49 #[.int .i64 0,.int .i64 0,.slice s3 1 c3]/\Blk w12 r2 49 #[.int .i64 2,.int .i64 1,.slice none 0 0]/\OutsN w12 w10.heap.size (.slice s11 1 c11) [⟨true,[49],[]⟩]/\Blk w12 r3 49 #[.int .i64 0,.int .i64 0,.slice s11 1 c11]):=by
  have g:=H12.out.2.1
  exact ⟨Blk.grown H11.out.1 g (by simp),H11.out.2.1.grown g,grown_trans H11.out.2.2.1 g,H11.out.2.2.2.1.grown g,H11.out.2.2.2.2.1.grown g (by simp),H11.out.2.2.2.2.2.1.grown g (by simp),H11.out.2.2.2.2.2.2.grown g,by rw [<-hr3];exact H12.out.1⟩
 rw [hr3]
 clear hr3 H12
 refine (put25 [97] [49,50,51,52,53,54,55,56,57] (by decide) (by decide) w12).mono ?_
 rintro e w13 ⟨u13,rfl,ho13,g13⟩
 obtain ⟨a13,_,_,_,_,rfl,_,_⟩:=id ho13
 have H13:Hid (One w13 (.slice a13 1 1) (putO [97] [49,50,51,52,53,54,55,56,57])/\w12.grownBy w13 none):=⟨ho13,g13⟩
 clear ho13 g13
 go_wp2_with fail
 refine (do17 (X:=X0) b m3 (2,9) D1 H3.out.2.2.1 (.slice a13 1 1) [putO [97] [49,50,51,52,53,54,55,56,57]] w13 (x0 w13) (Blk.grown K12.out.1 H13.out.2 (by simp)) (K12.out.2.1.grown H13.out.2) H13.out.1.ops).mono ?_
 rintro e w14 (⟨hC,_⟩ | ⟨_,g14,⟨outs,D',hcall,_⟩ | ⟨c8,n8,hcall,he8,hm8,rfl⟩⟩)
 ·exact absurd chk_l hC
 ·rw [call_l] at hcall;cases hcall
 rw [call_l] at hcall
 simp at hcall
 obtain ⟨rfl,rfl⟩:=hcall
 have hb13:EngB w13 b (2,9) m3:=Blk.grown K12.out.1 H13.out.2 (by simp)
 have H14:Hid (EngB w14 b (2,9) m3/\EM X0 w14 m3 D1/\w.grownBy w14 none/\OutsN w14 w2.heap.size (.slice s3 1 c3) [⟨false,[],[]⟩]/\Blk w14 r1 49 #[.int .i64 0,.int .i64 0,.slice s3 1 c3]/\Blk w14 r2 49 #[.int .i64 2,.int .i64 1,.slice none 0 0]/\OutsN w14 w10.heap.size (.slice s11 1 c11) [⟨true,[49],[]⟩]/\Blk w14 r3 49 #[.int .i64 0,.int .i64 0,.slice s11 1 c11]):=by
  have g:=H13.out.2
  exact ⟨he8,hm8,grown_new (grown_trans K12.out.2.2.1 g) g14 (fun x hx=>by simp at hx;have:=H1.out.2.2.2;omega),outs_do (K12.out.2.2.2.1.grown g) hb13 g14,blk_do (K12.out.2.2.2.2.1.grown g (by simp)) hb13 g14,blk_do (K12.out.2.2.2.2.2.1.grown g (by simp)) hb13 g14,outs_do (K12.out.2.2.2.2.2.2.1.grown g) hb13 g14,blk_do (K12.out.2.2.2.2.2.2.2.grown g (by simp)) hb13 g14⟩
 clear he8 hm8 g14 hb13
 unfold resV3
 have H15:Hid (Blk (w14.alloc (.cells #[.int .i64 3,.int .i64 0,.slice none 0 0] 49)) w14.heap.size 49 #[.int .i64 3,.int .i64 0,.slice none 0 0]/\w14.grownBy (w14.alloc (.cells #[.int .i64 3,.int .i64 0,.slice none 0 0] 49)) none):=⟨heap_alloc_new _ _,World.grownBy_alloc _ _ _⟩
 obtain ⟨g1,k1,x1,y1,e1,hk1,_,q10,q11,q12,_⟩:=outs_one (H14.out.2.2.2.1.grown H15.out.2)
 simp at e1
 obtain ⟨rfl,rfl⟩:=e1
 obtain ⟨g3,k3,x3,y3,e3,hk3,_,q30,q31,q32,hx3⟩:=outs_one (H14.out.2.2.2.2.2.2.1.grown H15.out.2)
 simp at e3
 obtain ⟨rfl,rfl⟩:=e3
 have hcv:=seg_str hx3.seg
 have t12:=(H14.out.2.2.2.2.1.grown H15.out.2 (by simp)).cell 2
 have t20:=(H14.out.2.2.2.2.2.1.grown H15.out.2 (by simp)).cell 0
 have t21:=(H14.out.2.2.2.2.2.1.grown H15.out.2 (by simp)).cell 1
 have t32:=(H14.out.2.2.2.2.2.2.2.grown H15.out.2 (by simp)).cell 2
 have t40:=H15.out.1.cell 0
 simp only [List.getElem?_toArray,List.getElem?_cons_zero,List.getElem?_cons_succ] at t12 t20 t21 t32 t40
 have KL:Hid (Eng X0 (w14.alloc (.cells #[.int .i64 3,.int .i64 0,.slice none 0 0] 49)) b (2,9) D1/\GoodD D1/\w.grownBy (w14.alloc (.cells #[.int .i64 3,.int .i64 0,.slice none 0 0] 49)) none):=⟨⟨m3,Blk.grown H14.out.1 H15.out.2 (by simp),H14.out.2.1.grown H15.out.2⟩,H3.out.2.2.1.good,grown_trans H14.out.2.2.1 H15.out.2⟩
 clear hx3
 go_wp2_with (go_at_call 16;refine (num16 0 _).mono ?_;rintro e w3 ⟨rfl,hw⟩;rw [hw];clear hw)
 refine (len19 (X:=X0) b (2,9) D1 KL.out.2.1 _ KL.out.1).mono ?_
 rw [len_D1]
 rintro e w16 ⟨rfl,g16⟩
 have K16:Hid (Eng X0 w16 b (2,9) D1/\w.grownBy w16 none):=⟨KL.out.1.grown g16,grown_trans KL.out.2.2 g16⟩
 clear g16
 go_wp2_with fail
 refine (size20 (X:=X0) b (2,9) D1 KL.out.2.1 _ K16.out.1).mono ?_
 rw [size_D1]
 rintro e w17 ⟨rfl,g17⟩
 have K17:Hid (w.grownBy w17 none):=grown_trans K16.out.2 g17
 clear g17
 go_wp2_with fail
 go_ret
 exact ⟨rfl,K17.out⟩
end Go.Proofs.YtakmlhhapegpoaaGreat
