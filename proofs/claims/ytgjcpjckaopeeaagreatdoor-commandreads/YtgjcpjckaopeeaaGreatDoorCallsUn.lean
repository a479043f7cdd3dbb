import Derived.Test.YtgjcpjckaopeeaaGreatDoorCallsWd
import Derived.Test.YtgjcpjckaopeeaaGreatDoorCrrAll
import Derived.Deep.DeepCutAuto
import Derived.Deep.CutBlock
set_option maxHeartbeats 16000000
set_option maxRecDepth 100000
namespace Go.Proofs.YtgjcpjckaopeeaaGreatDoor.Calls
open Go.RowKit Disk
open Names (Str)
theorem nH {w:World}{B:Nat}{v:Value}{L:List Bs}(h:SRow w B v L)(h0:L≠[]):∃g cap cur,v=.slice (some ⟨g,0,none⟩) L.length cap/\Blk w g 9 cur/\∀(j:Nat) (hj:j<L.length),cur[j]? = some (.string ⟨L[j].toArray⟩):=by
 rcases h.2 with ⟨_,e⟩ | ⟨g,cap,cur,rfl,hb,hg,h1,h2,h3,h4⟩
 ·exact absurd (List.length_eq_zero_iff.1 e) h0
 ·refine ⟨g,cap,cur,rfl,hg,fun j hj=>?_⟩
  have e:=congrArg (fun l:List Value=>l[j]?) h4
  simp [hj,Str] at e
  exact e
theorem rP (x:Bs)(w:World)(hl:x.length<=20000)(hE:EnvF w):Calls Tryz.prog 134 #[.string ⟨x.toArray⟩] w fun e w'=>∃(n:Int) (v:Value),e=.returned (.tuple #[.int .i64 n,v])/\-9223372036854775808<=n/\n<=9223372036854775807/\w.grownBy w' none/\(∀m:Nat,m<100->x=Lib.decDigits m->n=m):=by
 have hsz:(⟨x.toArray⟩:ByteArray).size<=20000:=by simp [ByteArray.size];omega
 cases hA:Lib.atoiAll x with
 | ok v =>
  have hb:=Lib.atoiAll_bounds hA
  refine (Tryz.strconv_Atoi_ok ⟨x.toArray⟩ (by omega) v hA w).mono ?_
  rintro e w' ⟨rfl,hw⟩
  refine ⟨v,_,rfl,hb.1,hb.2,?_,fun m hm e=>?_⟩
  ·rcases hw with rfl | ⟨t,rfl⟩
   ·exact ai _ _
   ·exact aL _ _
  ·rw [e,gd hm] at hA
   injection hA with hA
   exact hA.symm
 | «syntax» =>
  obtain ⟨tp,p,hv⟩:=hE.syn
  refine (Tryz.strconv_Atoi_syntax ⟨x.toArray⟩ (by omega) hA _ w hv (.inr ⟨tp,p,rfl⟩)).mono ?_
  rintro e w' ⟨N,rfl,_,_,hbl⟩
  exact ⟨0,_,rfl,by decide,by decide,bT hbl,fun m hm e=>by rw [e,gd hm] at hA;cases hA⟩
 | range =>
  obtain ⟨tp,p,hv⟩:=hE.rng
  refine (Tryz.strconv_Atoi_range ⟨x.toArray⟩ (by omega) hA _ w hv (.inr ⟨tp,p,rfl⟩)).mono ?_
  rintro e w' ⟨N,rfl,_,_,hbl⟩
  refine ⟨_,_,rfl,?_,?_,bT hbl,fun m hm e=>by rw [e,gd hm] at hA;cases hA⟩
  ·unfold Lib.atoiSat;split <;> decide
  ·unfold Lib.atoiSat;split <;> decide
theorem dv {p:POp}(hp:May p){ws0:Bs}{wr:List Bs}(h5:ws0=aS p.kind)(h8:wr=aA p):(ws0=[103,101,116]/\wr.length=0)\/(ws0=[100,101,108,101,116,101]/\wr.length=0)\/(ws0=[112,117,116]/\wr.length=1)\/(ws0=[115,119,97,112]/\wr.length=2)\/(ws0=[115,99,97,110]/\wr.length=2):=by
 have hk:=hp.kind
 subst h5 h8
 unfold aA aS
 have hc:p.kind=1\/p.kind=2\/p.kind=3\/p.kind=4\/p.kind=5:=by omega
 rcases hc with hc | hc | hc | hc | hc <;> rw [hc]
 ·exact .inl ⟨rfl,rfl⟩
 ·exact .inr (.inr (.inl ⟨rfl,rfl⟩))
 ·exact .inr (.inl ⟨rfl,rfl⟩)
 ·exact .inr (.inr (.inr (.inl ⟨rfl,rfl⟩)))
 ·exact .inr (.inr (.inr (.inr ⟨rfl,rfl⟩)))
def tC (s:Bs)(w:World)(e:Ending)(w':World):Prop:=∃k v ol t o,e=.returned (opV k v ol t o)/\OpOwn w' w.heap.size k v ol t o/\w.grownBy w' none/\(∀p,May p->s=av p->o=p)
def UnS (w:World)(r g:Nat)(cur cs:Array Value)(z:World):Prop:=Blk z w.heap.size 53 #[.int .i64 0,.string ⟨#[]⟩,.slice none 0 0,.slice none 0 0,.bool false,.slice none 0 0,.slice none 0 0,.int .i64 0]/\Blk z r 53 cs/\Blk z g 9 cur/\w.grownBy z none
theorem UnS.put {w z:World}{r g:Nat}{cur cs:Array Value}(h:UnS w r g cur cs z)(hb:w.heap.size<=r/\w.heap.size≠r/\r≠g)(j:Nat)(v:Value):UnS w r g cur (cs.setIfInBounds j v) (z.setCell ⟨r,j,none⟩ v):=by
 have hg:=ab z r j v
 exact ⟨h.1.grown hg (by simp;exact fun e=>hb.2.1 e.symm),h.2.1.store j _,h.2.2.1.grown hg (by simp;exact hb.2.2),ag h.2.2.2 hg (fun y hy=>by simp at hy;have:=hb.1;omega)⟩
theorem UnS.own {w z:World}{r g B:Nat}{cur cs:Array Value}{v:Value}{o:Bs}(h:UnS w r g cur cs z)(j:Nat)(x:Value)(ho:Own z B v o):Own (z.setCell ⟨r,j,none⟩ x) B v o:=a_ ho h.2.1 (by decide) (ab z r j x)
theorem UnS.grown {w z z':World}{r g:Nat}{cur cs:Array Value}(h:UnS w r g cur cs z)(hg:z.grownBy z' none):UnS w r g cur cs z':=⟨h.1.grown hg (by simp),h.2.1.grown hg (by simp),h.2.2.1.grown hg (by simp),aa h.2.2.2 hg⟩
def UnE (s:Bs)(w:World)(r:Nat)(z:World):Prop:=∃(a1 a2 a3 a4:Option Addr) (b1 b2 b3 b4 c1 c2 c3 c4:Nat) (o:POp),Hid (Blk z w.heap.size 53 #[.int .i64 0,.string ⟨#[]⟩,.slice none 0 0,.slice none 0 0,.bool false,.slice none 0 0,.slice none 0 0,.int .i64 0]/\Blk z r 53 #[.int .i64 o.kind,.string ⟨o.table.toArray⟩,.slice a1 b1 c1,.slice a2 b2 c2,.bool o.has,.slice a3 b3 c3,.slice a4 b4 c4,.int .i64 o.most]/\OpOwn z w.heap.size (.slice a1 b1 c1) (.slice a2 b2 c2) (.slice a3 b3 c3) (.slice a4 b4 c4) o/\w.grownBy z none/\∀p,May p->s=av p->o=p)
theorem dw {s:Bs}{w z:World}{r g:Nat}{cur:Array Value}{a1 a2 a3 a4:Option Addr}{b1 b2 b3 b4 c1 c2 c3 c4:Nat}(o:POp)(h:UnS w r g cur #[.int .i64 o.kind,.string ⟨o.table.toArray⟩,.slice a1 b1 c1,.slice a2 b2 c2,.bool o.has,.slice a3 b3 c3,.slice a4 b4 c4,.int .i64 o.most] z)(k1:Own z w.heap.size (.slice a1 b1 c1) o.key)(k2:Own z w.heap.size (.slice a2 b2 c2) o.value)(k3:Own z w.heap.size (.slice a3 b3 c3) o.old)(k4:Own z w.heap.size (.slice a4 b4 c4) o.to)(hi:OpIn o)(hp:∀p,May p->s=av p->o=p):UnE s w r z :=
 ⟨a1,a2,a3,a4,b1,b2,b3,b4,c1,c2,c3,c4,o,h.1,h.2.1,⟨.inl k1,.inl k2,.inl k3,.inl k4,hi⟩,h.2.2.2,hp⟩
theorem kA (s:Bs)(w:World)(hz:s.length<=20000)(hE:EnvF w):Calls Tryz.prog 92 #[.string ⟨s.toArray⟩] w (tC s w):=by
 have HE:Hid (EnvF w):=hE
 obtain ⟨ws,hws⟩:∃ws,Lib.split s [32]=ws:=⟨_,rfl⟩
 have HW:Hid (∀p,May p->s=av p->ws=aV p):=fun p hp e=>by rw [<-hws,e];exact gN hp
 have HLn:Hid (∀x ∈ ws,x.length<=20000):=by rw [<-hws];exact fun x hx=>Nat.le_trans (eu _ _ _ x hx) hz
 have HQ:Hid (∀w',Calls Tryz.prog 132 #[.string ⟨s.toArray⟩] w' fun e w''=>∃v,e=.returned v/\SRow w'' w'.heap.size v ws/\w'.grownBy w'' none):=fun w'=>by rw [<-hws];exact rQ s w' hz
 obtain ⟨n,hn⟩:∃n,ws.length=n:=⟨_,rfl⟩
 have HN:Hid (ws.length=n):=hn
 clear hE hws hn
 go_enter Tryz.func92,Tryz.ntmps92
 go_upto_region 1 with fail
 have S0:Hid (Blk (w.alloc (.cells #[.int .i64 0,.string ⟨#[]⟩,.slice none 0 0,.slice none 0 0,.bool false,.slice none 0 0,.slice none 0 0,.int .i64 0] 53)) w.heap.size 53 #[.int .i64 0,.string ⟨#[]⟩,.slice none 0 0,.slice none 0 0,.bool false,.slice none 0 0,.slice none 0 0,.int .i64 0]/\w.grownBy (w.alloc (.cells #[.int .i64 0,.string ⟨#[]⟩,.slice none 0 0,.slice none 0 0,.bool false,.slice none 0 0,.slice none 0 0,.int .i64 0] 53)) none):=⟨heap_alloc_new w _,World.grownBy_alloc _ _ none⟩
 generalize (w.alloc (.cells #[.int .i64 0,.string ⟨#[]⟩,.slice none 0 0,.slice none 0 0,.bool false,.slice none 0 0,.slice none 0 0,.int .i64 0] 53))=W0 at S0 ⊢
 go_wp2_with (go_at_call 132;refine (HQ.out _).mono ?_)
 rintro e w1 ⟨v,rfl,hrow,hg⟩
 have S1:Hid (Blk w1 w.heap.size 53 #[.int .i64 0,.string ⟨#[]⟩,.slice none 0 0,.slice none 0 0,.bool false,.slice none 0 0,.slice none 0 0,.int .i64 0]/\w.grownBy w1 none/\SRow w1 W0.heap.size v ws):=⟨S0.out.1.grown hg (by simp),aa S0.out.2 hg,hrow⟩
 clear hg hrow S0
 have hsh:∃f q,v=.slice f n q:=by
  rcases S1.out.2.2.2 with ⟨e,h0⟩ | ⟨g,cap,cur,e,_⟩
  ·exact ⟨none,0,by rw [e,<-HN.out,h0]⟩
  ·exact ⟨_,_,by rw [e,HN.out]⟩
 obtain ⟨f,q,rfl⟩:=hsh
 by_cases h3:n<3
 case pos =>
  have i1:(n:Int)<3:=by omega
  obtain ⟨r0,r1,r2,r3,r4',r5',r6,r7⟩:=aW S1.out.1
  obtain ⟨z0,z1,z2,z3,z4,z5,z6,z7⟩:=cK S1.out.1
  go_wp2_with fail
  have hb:=((((((((S1.out.1.store 0 (.int .i64 0)).store 1 (.string ⟨#[]⟩)).store 2 (.slice none 0 0)).store 3 (.slice none 0 0)).store 4 (.bool false)).store 5 (.slice none 0 0)).store 6 (.slice none 0 0)).store 7 (.int .i64 0))
  refine bodyPost_ret (v:=_) (results_cell_row rfl _ _ w.heap.size 53 _ (0,0) _ rfl hb Tryz.underlying53 rfl (by kernel_rfl)) rfl ?_
  have hg:=cq w1 w.heap.size (.int .i64 0) (.string ⟨#[]⟩) (.slice none 0 0) (.slice none 0 0) (.bool false) (.slice none 0 0) (.slice none 0 0) (.int .i64 0)
  refine ⟨_,_,_,_,⟨0,[],[],[],false,[],[],0⟩,rfl,⟨.inl (Own.nil _ _),.inl (Own.nil _ _),.inl (Own.nil _ _),.inl (Own.nil _ _),⟨by decide,by decide,by decide,by decide,by decide⟩⟩,ag S1.out.2.1 hg (fun y hy=>by simp at hy;omega),fun p hp e=>?_⟩
  have h4:=HW.out p hp e
  have h5:=HN.out
  rw [h4] at h5
  simp [aV] at h5
  omega
 have i1:((n:Int)<3)=False:=eq_false (by omega)
 obtain ⟨g,cap,cur,hv,hgb,hcur⟩:=nH S1.out.2.2 (fun e=>by have:=HN.out;rw [e] at this;simp at this;omega)
 have hv':f=some ⟨g,0,none⟩/\q=cap:=by simp at hv;exact ⟨hv.1,hv.2.2⟩
 obtain ⟨rfl,rfl⟩:=hv'
 clear hv
 have HCur:Hid (∀(j:Nat) (hj:j<ws.length),cur[j]? = some (.string ⟨ws[j].toArray⟩)):=hcur
 have HD:Hid (∀(j:Nat) (x:Bs),ws[j]? = some x->x.length<=20000/\∀W,Blk W g 9 cur->W.cell? ⟨g,j,none⟩=some (.string ⟨x.toArray⟩)):=by
  intro j x hx
  obtain ⟨hj,e⟩:=List.getElem?_eq_some_iff.1 hx
  refine ⟨HLn.out x (by rw [<-e];exact List.getElem_mem hj),fun W hW=>?_⟩
  rw [hW.cell j,HCur.out j hj,e]
 obtain ⟨ws0,ws1,ws2,wr,hwr⟩:∃a b c r,ws=a :: b :: c :: r:=by
  have h:=HN.out
  match ws,h with
  | [],h=>simp at h;omega
  | [_],h=>simp at h;omega
  | [_,_],h=>simp at h;omega
  | a :: b :: c :: r,_=>exact ⟨a,b,c,r,rfl⟩
 have HWR:Hid (ws=ws0 :: ws1 :: ws2 :: wr/\wr.length+3=n):=⟨hwr,by rw [<-HN.out,hwr];simp⟩
 have HD0:Hid (∀W,Blk W g 9 cur->W.cell? ⟨g,0,none⟩=some (.string ⟨ws0.toArray⟩)):=(HD.out 0 ws0 (by rw [hwr];rfl)).2
 have HD1:Hid (∀W,Blk W g 9 cur->W.cell? ⟨g,1,none⟩=some (.string ⟨ws1.toArray⟩)):=(HD.out 1 ws1 (by rw [hwr];rfl)).2
 have HD2:Hid (∀W,Blk W g 9 cur->W.cell? ⟨g,2,none⟩=some (.string ⟨ws2.toArray⟩)):=(HD.out 2 ws2 (by rw [hwr];rfl)).2
 have HZ2:Hid (ws2.length<=20000/\ws1.length<=20000):=⟨(HD.out 2 ws2 (by rw [hwr];rfl)).1,(HD.out 1 ws1 (by rw [hwr];rfl)).1⟩
 have S2:Hid (Blk w1 w.heap.size 53 #[.int .i64 0,.string ⟨#[]⟩,.slice none 0 0,.slice none 0 0,.bool false,.slice none 0 0,.slice none 0 0,.int .i64 0]/\w.grownBy w1 none/\Blk w1 g 9 cur):=⟨S1.out.1,S1.out.2.1,hgb⟩
 clear hgb hcur hwr S1 HCur
 have j1:(1:Int)<(n:Int):=by omega
 have j2:(2:Int)<(n:Int):=by omega
 have j3:1<n:=by omega
 have j4:2<n:=by omega
 go_upto_region 4 with fail
 go_cut [4] (fun x wc=>∃(r4:Nat) (f2:Option Addr) (l2 q2:Nat) (o2:Bs),x=.pointer (some ⟨r4,0,none⟩)/\Hid (UnS w r4 g cur #[.int .i64 0,.string ⟨ws1.toArray⟩,.slice f2 l2 q2,.slice none 0 0,.bool false,.slice none 0 0,.slice none 0 0,.int .i64 0] wc/\Own wc w.heap.size (.slice f2 l2 q2) o2/\(w.heap.size<=r4/\w.heap.size≠r4/\r4≠g)/\Names.aZ ws2=o2))
 case first =>
  go_wp2_with fail
  refine wp_region_noPanic ?_
  refine aj 1000 (fun x=>w1.grownBy x none) (by kernel_rfl) ?_
  have G0:Hid (w1.grownBy w1.drew none):=ac _ _
  generalize w1.drew=w2 at G0 ⊢
  have J:Idx [0,1,2,3,4,5]:=trivial
  iterate 6 (refine tK J (G0.out) rfl rfl (fun wk hk=>by have m1:=HD1.out _ (S2.out.2.2.grown hk (by simp));have m2:=HD2.out _ (S2.out.2.2.grown hk (by simp));go_simp;try rfl) ?_;replace J:=J.tl;try simp only [pN])
  refine du (i:=6) (j:=8) rfl rfl (by kernel_rfl) (by rfl) (by rfl) (fun K hK=>?_) (fun K hK=>?_)
  ·go_wp2_with (go_at_call 133;refine (es ws2 _ (by have:=HZ2.out.1;omega)).mono ?_)
   rintro e w3 ⟨v2,rfl,ho,hg⟩
   obtain ⟨f2,q2,e2⟩:=ho.seg.shape
   obtain ⟨o2,ho2⟩:∃o,Names.aZ ws2=o:=⟨_,rfl⟩
   have HO2:Hid (Names.aZ ws2=o2):=ho2
   rw [ho2] at ho e2
   obtain ⟨l2,hl2⟩:∃l,o2.length=l:=⟨_,rfl⟩
   rw [hl2] at e2
   subst e2
   have G1:Hid (w1.grownBy w3 none/\Own w3 w.heap.size (.slice f2 l2 q2) o2):=⟨aa G0.out hg,ho.mono (aa S2.out.2.1 G0.out).size⟩
   clear hg ho ho2 hl2
   go_wp2_with fail
   refine hK.out _ _ (fun _=>G1.out.1) ?_
   clear hK K
   try simp only [pN]
   refine tS 7 (G1.out.1) rfl rfl (fun wk hk=>by have m1:=HD1.out _ (S2.out.2.2.grown hk (by simp));have m2:=HD2.out _ (S2.out.2.2.grown hk (by simp));go_simp;try rfl) ?_
   try simp only [pN]
   refine wO 8 rfl fun K hK=>?_
   go_wp2_with fail
   have G2:Hid (w1.grownBy (w3.alloc (.cells #[.int .i64 0,.string ⟨#[]⟩,.slice none 0 0,.slice none 0 0,.bool false,.slice none 0 0,.slice none 0 0,.int .i64 0] 53)) none/\Own (w3.alloc (.cells #[.int .i64 0,.string ⟨#[]⟩,.slice none 0 0,.slice none 0 0,.bool false,.slice none 0 0,.slice none 0 0,.int .i64 0] 53)) w.heap.size (.slice f2 l2 q2) o2/\Blk (w3.alloc (.cells #[.int .i64 0,.string ⟨#[]⟩,.slice none 0 0,.slice none 0 0,.bool false,.slice none 0 0,.slice none 0 0,.int .i64 0] 53)) w3.heap.size 53 #[.int .i64 0,.string ⟨#[]⟩,.slice none 0 0,.slice none 0 0,.bool false,.slice none 0 0,.slice none 0 0,.int .i64 0]):=⟨aa G1.out.1 gA_,G1.out.2.alloc _,heap_alloc_new w3 _⟩
   refine hK.out _ _ (fun _=>G2.out.1) ?_
   clear hK K
   obtain ⟨r4,hr4⟩:∃r,w3.heap.size=r:=⟨_,rfl⟩
   have HB0:Hid (w1.heap.size<=r4):=by rw [<-hr4];exact G1.out.1.size
   rw [hr4] at G2 ⊢
   clear hr4 G1
   generalize (w3.alloc (.cells #[.int .i64 0,.string ⟨#[]⟩,.slice none 0 0,.slice none 0 0,.bool false,.slice none 0 0,.slice none 0 0,.int .i64 0] 53))=w4 at G2 ⊢
   try simp only [pN]
   refine wO 9 rfl fun K hK=>?_
   obtain ⟨y0,y1,y2,y3,y4,y5,y6,y7⟩:=aW G2.out.2.2
   obtain ⟨x0,x1,x2,x3,x4,x5,x6,x7⟩:=cK G2.out.2.2
   go_wp2_with fail
   clear y0 y1 y2 y3 y4 y5 y6 y7 x0 x1 x2 x3 x4 x5 x6 x7
   have V4:Hid (Blk ((((((((w4.setCell ⟨r4,0,none⟩ (.int .i64 0)).setCell ⟨r4,1,none⟩ (.string ⟨ws1.toArray⟩)).setCell ⟨r4,2,none⟩ (.slice f2 l2 q2)).setCell ⟨r4,3,none⟩ (.slice none 0 0)).setCell ⟨r4,4,none⟩ (.bool false)).setCell ⟨r4,5,none⟩ (.slice none 0 0)).setCell ⟨r4,6,none⟩ (.slice none 0 0)).setCell ⟨r4,7,none⟩ (.int .i64 0)) w.heap.size 53 #[.int .i64 0,.string ⟨#[]⟩,.slice none 0 0,.slice none 0 0,.bool false,.slice none 0 0,.slice none 0 0,.int .i64 0]/\Blk ((((((((w4.setCell ⟨r4,0,none⟩ (.int .i64 0)).setCell ⟨r4,1,none⟩ (.string ⟨ws1.toArray⟩)).setCell ⟨r4,2,none⟩ (.slice f2 l2 q2)).setCell ⟨r4,3,none⟩ (.slice none 0 0)).setCell ⟨r4,4,none⟩ (.bool false)).setCell ⟨r4,5,none⟩ (.slice none 0 0)).setCell ⟨r4,6,none⟩ (.slice none 0 0)).setCell ⟨r4,7,none⟩ (.int .i64 0)) r4 53 #[.int .i64 0,.string ⟨ws1.toArray⟩,.slice f2 l2 q2,.slice none 0 0,.bool false,.slice none 0 0,.slice none 0 0,.int .i64 0]/\Blk ((((((((w4.setCell ⟨r4,0,none⟩ (.int .i64 0)).setCell ⟨r4,1,none⟩ (.string ⟨ws1.toArray⟩)).setCell ⟨r4,2,none⟩ (.slice f2 l2 q2)).setCell ⟨r4,3,none⟩ (.slice none 0 0)).setCell ⟨r4,4,none⟩ (.bool false)).setCell ⟨r4,5,none⟩ (.slice none 0 0)).setCell ⟨r4,6,none⟩ (.slice none 0 0)).setCell ⟨r4,7,none⟩ (.int .i64 0)) g 9 cur/\w.grownBy ((((((((w4.setCell ⟨r4,0,none⟩ (.int .i64 0)).setCell ⟨r4,1,none⟩ (.string ⟨ws1.toArray⟩)).setCell ⟨r4,2,none⟩ (.slice f2 l2 q2)).setCell ⟨r4,3,none⟩ (.slice none 0 0)).setCell ⟨r4,4,none⟩ (.bool false)).setCell ⟨r4,5,none⟩ (.slice none 0 0)).setCell ⟨r4,6,none⟩ (.slice none 0 0)).setCell ⟨r4,7,none⟩ (.int .i64 0)) none/\Own ((((((((w4.setCell ⟨r4,0,none⟩ (.int .i64 0)).setCell ⟨r4,1,none⟩ (.string ⟨ws1.toArray⟩)).setCell ⟨r4,2,none⟩ (.slice f2 l2 q2)).setCell ⟨r4,3,none⟩ (.slice none 0 0)).setCell ⟨r4,4,none⟩ (.bool false)).setCell ⟨r4,5,none⟩ (.slice none 0 0)).setCell ⟨r4,6,none⟩ (.slice none 0 0)).setCell ⟨r4,7,none⟩ (.int .i64 0)) w.heap.size (.slice f2 l2 q2) o2/\True):=by
    have hg:=cq w4 r4 (.int .i64 0) (.string ⟨ws1.toArray⟩) (.slice f2 l2 q2) (.slice none 0 0) (.bool false) (.slice none 0 0) (.slice none 0 0) (.int .i64 0)
    have n1:r4≠w.heap.size:=fun e=>by have h1:=HB0.out;have h2:=S2.out.1.lt;omega
    have n2:r4≠g:=fun e=>by have h1:=HB0.out;have h2:=S2.out.2.2.lt;omega
    exact ⟨(S2.out.1.grown G2.out.1 (by simp)).grown hg (by simp;exact n1),((((((((G2.out.2.2.store 0 (.int .i64 0)).store 1 (.string ⟨ws1.toArray⟩)).store 2 (.slice f2 l2 q2)).store 3 (.slice none 0 0)).store 4 (.bool false)).store 5 (.slice none 0 0)).store 6 (.slice none 0 0)).store 7 (.int .i64 0)),(S2.out.2.2.grown G2.out.1 (by simp)).grown hg (by simp;exact n2),ag (aa S2.out.2.1 G2.out.1) hg (fun y hy=>by simp at hy;have h1:=HB0.out;have h2:=S2.out.2.1.size;omega),a_ G2.out.2.1 G2.out.2.2 (by decide) hg,trivial⟩
   have HB:Hid (w.heap.size<=r4/\w.heap.size≠r4/\r4≠g):=⟨by have h1:=HB0.out;have h2:=S2.out.2.1.size;omega,fun e=>by have h1:=HB0.out;have h2:=S2.out.1.lt;omega,fun e=>by have h1:=HB0.out;have h2:=S2.out.2.2.lt;omega⟩
   refine hK.out _ _ (fun _=>ag G2.out.1 (by have hg:=cq w4 r4 (.int .i64 0) (.string ⟨ws1.toArray⟩) (.slice f2 l2 q2) (.slice none 0 0) (.bool false) (.slice none 0 0) (.slice none 0 0) (.int .i64 0);exact hg) (fun y hy=>by simp at hy;have h1:=HB0.out;omega)) ?_
   clear hK K G2 HB0
   generalize ((((((((w4.setCell ⟨r4,0,none⟩ (.int .i64 0)).setCell ⟨r4,1,none⟩ (.string ⟨ws1.toArray⟩)).setCell ⟨r4,2,none⟩ (.slice f2 l2 q2)).setCell ⟨r4,3,none⟩ (.slice none 0 0)).setCell ⟨r4,4,none⟩ (.bool false)).setCell ⟨r4,5,none⟩ (.slice none 0 0)).setCell ⟨r4,6,none⟩ (.slice none 0 0)).setCell ⟨r4,7,none⟩ (.int .i64 0))=z4 at V4 ⊢
   try simp only [pN]
   refine wD ?_
   refine (‹∀(a:Act) (w:World),Met _ a w->_› _ _ ?_)
   go_meet
   case rel=>exact ⟨r4,f2,l2,q2,o2,rfl,⟨V4.out.1,V4.out.2.1,V4.out.2.2.1,V4.out.2.2.2.1⟩,V4.out.2.2.2.2.1,HB.out,HO2.out⟩
  ·go_wp2_with fail
   have G1:Hid (w1.grownBy (w2.alloc (.cells #[.int .i64 0,.string ⟨#[]⟩,.slice none 0 0,.slice none 0 0,.bool false,.slice none 0 0,.slice none 0 0,.int .i64 0] 53)) none/\Blk (w2.alloc (.cells #[.int .i64 0,.string ⟨#[]⟩,.slice none 0 0,.slice none 0 0,.bool false,.slice none 0 0,.slice none 0 0,.int .i64 0] 53)) w2.heap.size 53 #[.int .i64 0,.string ⟨#[]⟩,.slice none 0 0,.slice none 0 0,.bool false,.slice none 0 0,.slice none 0 0,.int .i64 0]):=⟨aa G0.out gA_,heap_alloc_new w2 _⟩
   refine hK.out _ _ (fun _=>G1.out.1) ?_
   clear hK K
   obtain ⟨r4,hr4⟩:∃r,w2.heap.size=r:=⟨_,rfl⟩
   have HB0:Hid (w1.heap.size<=r4):=by rw [<-hr4];exact G0.out.size
   rw [hr4] at G1 ⊢
   clear hr4
   generalize (w2.alloc (.cells #[.int .i64 0,.string ⟨#[]⟩,.slice none 0 0,.slice none 0 0,.bool false,.slice none 0 0,.slice none 0 0,.int .i64 0] 53))=w3 at G1 ⊢
   try simp only [pN]
   refine wO 6 rfl fun K hK=>?_
   go_wp2_with (go_at_call 133;refine (es ws2 _ (by have:=HZ2.out.1;omega)).mono ?_)
   rintro e w4 ⟨v2,rfl,ho,hg⟩
   obtain ⟨f2,q2,e2⟩:=ho.seg.shape
   obtain ⟨o2,ho2⟩:∃o,Names.aZ ws2=o:=⟨_,rfl⟩
   have HO2:Hid (Names.aZ ws2=o2):=ho2
   rw [ho2] at ho e2
   obtain ⟨l2,hl2⟩:∃l,o2.length=l:=⟨_,rfl⟩
   rw [hl2] at e2
   subst e2
   have G2:Hid (w1.grownBy w4 none/\Own w4 w.heap.size (.slice f2 l2 q2) o2/\Blk w4 r4 53 #[.int .i64 0,.string ⟨#[]⟩,.slice none 0 0,.slice none 0 0,.bool false,.slice none 0 0,.slice none 0 0,.int .i64 0]):=⟨aa G1.out.1 hg,ho.mono (aa S2.out.2.1 G1.out.1).size,G1.out.2.grown hg (by simp)⟩
   clear hg ho ho2 hl2
   go_wp2_with fail
   refine hK.out _ _ (fun _=>G2.out.1) ?_
   clear hK K G1
   try simp only [pN]
   refine tS 7 (G2.out.1) rfl rfl (fun wk hk=>by have m1:=HD1.out _ (S2.out.2.2.grown hk (by simp));have m2:=HD2.out _ (S2.out.2.2.grown hk (by simp));go_simp;try rfl) ?_
   try simp only [pN]
   refine wO 9 rfl fun K hK=>?_
   obtain ⟨y0,y1,y2,y3,y4,y5,y6,y7⟩:=aW G2.out.2.2
   obtain ⟨x0,x1,x2,x3,x4,x5,x6,x7⟩:=cK G2.out.2.2
   go_wp2_with fail
   clear y0 y1 y2 y3 y4 y5 y6 y7 x0 x1 x2 x3 x4 x5 x6 x7
   have V4:Hid (Blk ((((((((w4.setCell ⟨r4,0,none⟩ (.int .i64 0)).setCell ⟨r4,1,none⟩ (.string ⟨ws1.toArray⟩)).setCell ⟨r4,2,none⟩ (.slice f2 l2 q2)).setCell ⟨r4,3,none⟩ (.slice none 0 0)).setCell ⟨r4,4,none⟩ (.bool false)).setCell ⟨r4,5,none⟩ (.slice none 0 0)).setCell ⟨r4,6,none⟩ (.slice none 0 0)).setCell ⟨r4,7,none⟩ (.int .i64 0)) w.heap.size 53 #[.int .i64 0,.string ⟨#[]⟩,.slice none 0 0,.slice none 0 0,.bool false,.slice none 0 0,.slice none 0 0,.int .i64 0]/\Blk ((((((((w4.setCell ⟨r4,0,none⟩ (.int .i64 0)).setCell ⟨r4,1,none⟩ (.string ⟨ws1.toArray⟩)).setCell ⟨r4,2,none⟩ (.slice f2 l2 q2)).setCell ⟨r4,3,none⟩ (.slice none 0 0)).setCell ⟨r4,4,none⟩ (.bool false)).setCell ⟨r4,5,none⟩ (.slice none 0 0)).setCell ⟨r4,6,none⟩ (.slice none 0 0)).setCell ⟨r4,7,none⟩ (.int .i64 0)) r4 53 #[.int .i64 0,.string ⟨ws1.toArray⟩,.slice f2 l2 q2,.slice none 0 0,.bool false,.slice none 0 0,.slice none 0 0,.int .i64 0]/\Blk ((((((((w4.setCell ⟨r4,0,none⟩ (.int .i64 0)).setCell ⟨r4,1,none⟩ (.string ⟨ws1.toArray⟩)).setCell ⟨r4,2,none⟩ (.slice f2 l2 q2)).setCell ⟨r4,3,none⟩ (.slice none 0 0)).setCell ⟨r4,4,none⟩ (.bool false)).setCell ⟨r4,5,none⟩ (.slice none 0 0)).setCell ⟨r4,6,none⟩ (.slice none 0 0)).setCell ⟨r4,7,none⟩ (.int .i64 0)) g 9 cur/\w.grownBy ((((((((w4.setCell ⟨r4,0,none⟩ (.int .i64 0)).setCell ⟨r4,1,none⟩ (.string ⟨ws1.toArray⟩)).setCell ⟨r4,2,none⟩ (.slice f2 l2 q2)).setCell ⟨r4,3,none⟩ (.slice none 0 0)).setCell ⟨r4,4,none⟩ (.bool false)).setCell ⟨r4,5,none⟩ (.slice none 0 0)).setCell ⟨r4,6,none⟩ (.slice none 0 0)).setCell ⟨r4,7,none⟩ (.int .i64 0)) none/\Own ((((((((w4.setCell ⟨r4,0,none⟩ (.int .i64 0)).setCell ⟨r4,1,none⟩ (.string ⟨ws1.toArray⟩)).setCell ⟨r4,2,none⟩ (.slice f2 l2 q2)).setCell ⟨r4,3,none⟩ (.slice none 0 0)).setCell ⟨r4,4,none⟩ (.bool false)).setCell ⟨r4,5,none⟩ (.slice none 0 0)).setCell ⟨r4,6,none⟩ (.slice none 0 0)).setCell ⟨r4,7,none⟩ (.int .i64 0)) w.heap.size (.slice f2 l2 q2) o2/\True):=by
    have hg:=cq w4 r4 (.int .i64 0) (.string ⟨ws1.toArray⟩) (.slice f2 l2 q2) (.slice none 0 0) (.bool false) (.slice none 0 0) (.slice none 0 0) (.int .i64 0)
    have n1:r4≠w.heap.size:=fun e=>by have h1:=HB0.out;have h2:=S2.out.1.lt;omega
    have n2:r4≠g:=fun e=>by have h1:=HB0.out;have h2:=S2.out.2.2.lt;omega
    exact ⟨(S2.out.1.grown G2.out.1 (by simp)).grown hg (by simp;exact n1),((((((((G2.out.2.2.store 0 (.int .i64 0)).store 1 (.string ⟨ws1.toArray⟩)).store 2 (.slice f2 l2 q2)).store 3 (.slice none 0 0)).store 4 (.bool false)).store 5 (.slice none 0 0)).store 6 (.slice none 0 0)).store 7 (.int .i64 0)),(S2.out.2.2.grown G2.out.1 (by simp)).grown hg (by simp;exact n2),ag (aa S2.out.2.1 G2.out.1) hg (fun y hy=>by simp at hy;have h1:=HB0.out;have h2:=S2.out.2.1.size;omega),a_ G2.out.2.1 G2.out.2.2 (by decide) hg,trivial⟩
   have HB:Hid (w.heap.size<=r4/\w.heap.size≠r4/\r4≠g):=⟨by have h1:=HB0.out;have h2:=S2.out.2.1.size;omega,fun e=>by have h1:=HB0.out;have h2:=S2.out.1.lt;omega,fun e=>by have h1:=HB0.out;have h2:=S2.out.2.2.lt;omega⟩
   refine hK.out _ _ (fun _=>ag G2.out.1 (by have hg:=cq w4 r4 (.int .i64 0) (.string ⟨ws1.toArray⟩) (.slice f2 l2 q2) (.slice none 0 0) (.bool false) (.slice none 0 0) (.slice none 0 0) (.int .i64 0);exact hg) (fun y hy=>by simp at hy;have h1:=HB0.out;omega)) ?_
   clear hK K G2 HB0
   generalize ((((((((w4.setCell ⟨r4,0,none⟩ (.int .i64 0)).setCell ⟨r4,1,none⟩ (.string ⟨ws1.toArray⟩)).setCell ⟨r4,2,none⟩ (.slice f2 l2 q2)).setCell ⟨r4,3,none⟩ (.slice none 0 0)).setCell ⟨r4,4,none⟩ (.bool false)).setCell ⟨r4,5,none⟩ (.slice none 0 0)).setCell ⟨r4,6,none⟩ (.slice none 0 0)).setCell ⟨r4,7,none⟩ (.int .i64 0))=z4 at V4 ⊢
   try simp only [pN]
   refine wD ?_
   refine (‹∀(a:Act) (w:World),Met _ a w->_› _ _ ?_)
   go_meet
   case rel=>exact ⟨r4,f2,l2,q2,o2,rfl,⟨V4.out.1,V4.out.2.1,V4.out.2.2.1,V4.out.2.2.2.1⟩,V4.out.2.2.2.2.1,HB.out,HO2.out⟩
 case rest =>
 obtain ⟨r4,f2,l2,q2,o2,rfl,H4⟩:=hcut
 have V4:Hid (UnS w r4 g cur #[.int .i64 0,.string ⟨ws1.toArray⟩,.slice f2 l2 q2,.slice none 0 0,.bool false,.slice none 0 0,.slice none 0 0,.int .i64 0] wc/\Own wc w.heap.size (.slice f2 l2 q2) o2/\True):=⟨H4.out.1,H4.out.2.1,trivial⟩
 have HB:Hid (w.heap.size<=r4/\w.heap.size≠r4/\r4≠g):=H4.out.2.2.1
 have HO2:Hid (Names.aZ ws2=o2):=H4.out.2.2.2
 have HU1:Hid (∀p,May p->s=av p->ws0=aS p.kind/\ws1=p.table/\wr=aA p/\o2=p.key):=fun p hp e=>by
  have h4:=HW.out p hp e
  rw [HWR.out.1] at h4
  unfold aV at h4
  simp only [List.cons_append,List.nil_append,List.cons.injEq] at h4
  obtain ⟨h5,h6,h7,h8⟩:=h4
  exact ⟨h5,h6,h8,by rw [<-HO2.out,h7];exact (Names.dq _).1⟩
 have HTL:Hid (ws1.length<=9223372036854775807):=by have:=HZ2.out.2;unfold Hid;omega
 clear H4 HZ2 HO2 HW
 generalize wc=z4 at V4 ⊢
 have d0:=HD0.out _ V4.out.1.2.2.1
 have j5:(0:Int)<(n:Int):=by omega
 have j6:0<n:=by omega
 go_upto_block 0 with fail
 go_cut [] (fun wc=>UnE s w r4 wc)
 case first =>
  by_cases w1:ws0=[103,101,116]
  case pos =>
   have nq3:(ws0=[100,101,108,101,116,101])=False:=eq_false (by rw [w1];decide)
   have nq2:(ws0=[112,117,116])=False:=eq_false (by rw [w1];decide)
   have nq4:(ws0=[115,119,97,112])=False:=eq_false (by rw [w1];decide)
   have nq5:(ws0=[115,99,97,110])=False:=eq_false (by rw [w1];decide)
   have HW0:Hid (ws0=[103,101,116]):=w1
   by_cases nn:n=3
   case pos =>
    subst nn
    have y0:=V4.out.1.2.1.cell 0
    have yf:=V4.out.1.2.1.free 0
    go_wp2_with fail
    clear y0 yf
    have Vk:Hid (UnS w r4 g cur #[.int .i64 1,.string ⟨ws1.toArray⟩,.slice f2 l2 q2,.slice none 0 0,.bool false,.slice none 0 0,.slice none 0 0,.int .i64 0] (z4.setCell ⟨r4,0,none⟩ (.int .i64 1))/\Own (z4.setCell ⟨r4,0,none⟩ (.int .i64 1)) w.heap.size (.slice f2 l2 q2) o2/\True):=⟨V4.out.1.put HB.out 0 _,V4.out.1.own 0 _ V4.out.2.1,trivial⟩
    clear V4
    generalize (z4.setCell ⟨r4,0,none⟩ (.int .i64 1))=zk at Vk ⊢
    go_meet
    case rel =>
     refine dw ⟨1,ws1,o2,[],false,[],[],0⟩ Vk.out.1 Vk.out.2.1 (Own.nil _ _) (Own.nil _ _) (Own.nil _ _) ⟨by first | (simp <;> omega) | omega | decide,by first | (simp <;> omega) | omega | decide,by simp,by simp,HTL.out⟩ (fun p hp e=>?_)
     obtain ⟨h5,h6,h8,h9⟩:=HU1.out p hp e
     have hk:=hp.kind
     have hkk:p.kind=1:=by
      have hc:p.kind=1\/p.kind=2\/p.kind=3\/p.kind=4\/p.kind=5:=by omega
      rcases hc with hc | hc | hc | hc | hc <;> first | exact hc | (rw [HW0.out,hc] at h5;exact absurd h5 (by decide))
     have hn:=hp.named
     rw [named,if_pos (by omega)] at hn
     rw [hn,h6,<-h9,hkk]
   have n1:((n:Int)=3)=False:=eq_false (by omega)
   have n2:((n:Int)==3)=false:=by rw [beq_eq_false_iff_ne];omega
   have n3:(n=3)=False:=eq_false nn
   go_wp2_with fail
   go_meet
   case rel =>
    refine dw ⟨0,ws1,o2,[],false,[],[],0⟩ V4.out.1 V4.out.2.1 (Own.nil _ _) (Own.nil _ _) (Own.nil _ _) ⟨by first | (simp <;> omega) | omega | decide,by first | (simp <;> omega) | omega | decide,by simp,by simp,HTL.out⟩ (fun p hp e=>?_)
    obtain ⟨h5,h6,h8,h9⟩:=HU1.out p hp e
    have hk:=hp.kind
    exfalso
    have h11:=HWR.out.2
    rcases dv hp h5 h8 with ⟨a,b⟩ | ⟨a,b⟩ | ⟨a,b⟩ | ⟨a,b⟩ | ⟨a,b⟩ <;> first | (rw [HW0.out] at a;exact absurd a (by decide)) | omega
  by_cases w3:ws0=[100,101,108,101,116,101]
  case pos =>
   have nq1:(ws0=[103,101,116])=False:=eq_false (by rw [w3];decide)
   have nq2:(ws0=[112,117,116])=False:=eq_false (by rw [w3];decide)
   have nq4:(ws0=[115,119,97,112])=False:=eq_false (by rw [w3];decide)
   have nq5:(ws0=[115,99,97,110])=False:=eq_false (by rw [w3];decide)
   have HW0:Hid (ws0=[100,101,108,101,116,101]):=w3
   by_cases nn:n=3
   case pos =>
    subst nn
    have y0:=V4.out.1.2.1.cell 0
    have yf:=V4.out.1.2.1.free 0
    go_wp2_with fail
    clear y0 yf
    have Vk:Hid (UnS w r4 g cur #[.int .i64 3,.string ⟨ws1.toArray⟩,.slice f2 l2 q2,.slice none 0 0,.bool false,.slice none 0 0,.slice none 0 0,.int .i64 0] (z4.setCell ⟨r4,0,none⟩ (.int .i64 3))/\Own (z4.setCell ⟨r4,0,none⟩ (.int .i64 3)) w.heap.size (.slice f2 l2 q2) o2/\True):=⟨V4.out.1.put HB.out 0 _,V4.out.1.own 0 _ V4.out.2.1,trivial⟩
    clear V4
    generalize (z4.setCell ⟨r4,0,none⟩ (.int .i64 3))=zk at Vk ⊢
    go_meet
    case rel =>
     refine dw ⟨3,ws1,o2,[],false,[],[],0⟩ Vk.out.1 Vk.out.2.1 (Own.nil _ _) (Own.nil _ _) (Own.nil _ _) ⟨by first | (simp <;> omega) | omega | decide,by first | (simp <;> omega) | omega | decide,by simp,by simp,HTL.out⟩ (fun p hp e=>?_)
     obtain ⟨h5,h6,h8,h9⟩:=HU1.out p hp e
     have hk:=hp.kind
     have hkk:p.kind=3:=by
      have hc:p.kind=1\/p.kind=2\/p.kind=3\/p.kind=4\/p.kind=5:=by omega
      rcases hc with hc | hc | hc | hc | hc <;> first | exact hc | (rw [HW0.out,hc] at h5;exact absurd h5 (by decide))
     have hn:=hp.named
     rw [named,if_pos (by omega)] at hn
     rw [hn,h6,<-h9,hkk]
   have n1:((n:Int)=3)=False:=eq_false (by omega)
   have n2:((n:Int)==3)=false:=by rw [beq_eq_false_iff_ne];omega
   have n3:(n=3)=False:=eq_false nn
   go_wp2_with fail
   go_meet
   case rel =>
    refine dw ⟨0,ws1,o2,[],false,[],[],0⟩ V4.out.1 V4.out.2.1 (Own.nil _ _) (Own.nil _ _) (Own.nil _ _) ⟨by first | (simp <;> omega) | omega | decide,by first | (simp <;> omega) | omega | decide,by simp,by simp,HTL.out⟩ (fun p hp e=>?_)
    obtain ⟨h5,h6,h8,h9⟩:=HU1.out p hp e
    have hk:=hp.kind
    exfalso
    have h11:=HWR.out.2
    rcases dv hp h5 h8 with ⟨a,b⟩ | ⟨a,b⟩ | ⟨a,b⟩ | ⟨a,b⟩ | ⟨a,b⟩ <;> first | (rw [HW0.out] at a;exact absurd a (by decide)) | omega
  by_cases w2:ws0=[112,117,116]
  case pos =>
   have nq1:(ws0=[103,101,116])=False:=eq_false (by rw [w2];decide)
   have nq3:(ws0=[100,101,108,101,116,101])=False:=eq_false (by rw [w2];decide)
   have nq4:(ws0=[115,119,97,112])=False:=eq_false (by rw [w2];decide)
   have nq5:(ws0=[115,99,97,110])=False:=eq_false (by rw [w2];decide)
   have HW0:Hid (ws0=[112,117,116]):=w2
   by_cases nn:n=4
   case pos =>
    subst nn
    obtain ⟨ws3,hwr⟩:∃ws3,wr=[ws3]:=by
     have h:=HWR.out.2
     match wr,h with
     | [],h=>simp at h
     | [a],_=>exact ⟨a,rfl⟩
     | _ :: _ :: _,h=>simp at h
    have HD3:Hid (∀W,Blk W g 9 cur->W.cell? ⟨g,3,none⟩=some (.string ⟨ws3.toArray⟩)):=(HD.out 3 ws3 (by rw [HWR.out.1,hwr];rfl)).2
    have HY3:Hid (ws3.length<=20000):=(HD.out 3 ws3 (by rw [HWR.out.1,hwr];rfl)).1
    have HZ3:Hid (ws3.length<=100000):=by have:=HY3.out;unfold Hid;omega
    have HWW:Hid (wr=[ws3]):=hwr
    clear hwr
    have y0:=V4.out.1.2.1.cell 0
    have yf:=V4.out.1.2.1.free 0
    go_upto_region 11 with fail
    clear y0 yf
    have Vk:Hid (UnS w r4 g cur #[.int .i64 2,.string ⟨ws1.toArray⟩,.slice f2 l2 q2,.slice none 0 0,.bool false,.slice none 0 0,.slice none 0 0,.int .i64 0] (z4.setCell ⟨r4,0,none⟩ (.int .i64 2))/\Own (z4.setCell ⟨r4,0,none⟩ (.int .i64 2)) w.heap.size (.slice f2 l2 q2) o2/\True):=⟨V4.out.1.put HB.out 0 _,V4.out.1.own 0 _ V4.out.2.1,trivial⟩
    clear V4
    generalize (z4.setCell ⟨r4,0,none⟩ (.int .i64 2))=zk at Vk ⊢
    have y3:=Vk.out.1.2.1.cell 3
    have d3:=HD3.out _ Vk.out.1.2.2.1
    go_wp2_with (go_at_call 133;refine (es ws3 _ HZ3.out).mono ?_)
    rintro e xe ⟨ve,rfl,ho,hg⟩
    obtain ⟨fe,qe,ee⟩:=ho.seg.shape
    obtain ⟨oe,hoe⟩:∃o,Names.aZ ws3=o:=⟨_,rfl⟩
    have HOe:Hid (Names.aZ ws3=oe):=hoe
    rw [hoe] at ho ee
    obtain ⟨le,hle⟩:∃l,oe.length=l:=⟨_,rfl⟩
    rw [hle] at ee
    subst ee
    have Ue:Hid (UnS w r4 g cur #[.int .i64 2,.string ⟨ws1.toArray⟩,.slice f2 l2 q2,.slice none 0 0,.bool false,.slice none 0 0,.slice none 0 0,.int .i64 0] xe/\Own xe w.heap.size (.slice f2 l2 q2) o2/\Own xe w.heap.size (.slice fe le qe) oe/\True):=⟨Vk.out.1.grown hg,Vk.out.2.1.grown hg,ho.mono Vk.out.1.2.2.2.size,trivial⟩
    clear ho hg hoe hle y3 d3 Vk
    have y3:=Ue.out.1.2.1.cell 3
    have yf:=Ue.out.1.2.1.free 3
    go_wp2_with fail
    clear y3 yf
    have Ve:Hid (UnS w r4 g cur #[.int .i64 2,.string ⟨ws1.toArray⟩,.slice f2 l2 q2,.slice fe le qe,.bool false,.slice none 0 0,.slice none 0 0,.int .i64 0] (xe.setCell ⟨r4,3,none⟩ (.slice fe le qe))/\Own (xe.setCell ⟨r4,3,none⟩ (.slice fe le qe)) w.heap.size (.slice f2 l2 q2) o2/\Own (xe.setCell ⟨r4,3,none⟩ (.slice fe le qe)) w.heap.size (.slice fe le qe) oe/\True):=⟨Ue.out.1.put HB.out 3 _,Ue.out.1.own 3 _ Ue.out.2.1,Ue.out.1.own 3 _ Ue.out.2.2.1,trivial⟩
    clear Ue
    generalize (xe.setCell ⟨r4,3,none⟩ (.slice fe le qe))=ze at Ve ⊢
    go_meet
    case rel =>
     refine dw ⟨2,ws1,o2,oe,false,[],[],0⟩ Ve.out.1 Ve.out.2.1 (Ve.out.2.2.1) (Own.nil _ _) (Own.nil _ _) ⟨by first | (simp <;> omega) | omega | decide,by first | (simp <;> omega) | omega | decide,by simp,by simp,HTL.out⟩ (fun p hp e=>?_)
     obtain ⟨h5,h6,h8,h9⟩:=HU1.out p hp e
     have hk:=hp.kind
     have hkk:p.kind=2:=by
      have hc:p.kind=1\/p.kind=2\/p.kind=3\/p.kind=4\/p.kind=5:=by omega
      rcases hc with hc | hc | hc | hc | hc <;> first | exact hc | (rw [HW0.out,hc] at h5;exact absurd h5 (by decide))
     have hn:=hp.named
     rw [HWW.out] at h8
     unfold aA at h8
     rw [if_pos hkk] at h8
     have h10:oe=p.value:=by rw [<-HOe.out,(by simpa using h8:ws3=Names.txt p.value)];exact (Names.dq _).1
     rw [named,if_neg (by omega),if_pos hkk] at hn
     rw [hn,h6,<-h9,<-h10,hkk]
   have n1:((n:Int)=4)=False:=eq_false (by omega)
   have n2:((n:Int)==4)=false:=by rw [beq_eq_false_iff_ne];omega
   have n3:(n=4)=False:=eq_false nn
   go_wp2_with fail
   go_meet
   case rel =>
    refine dw ⟨0,ws1,o2,[],false,[],[],0⟩ V4.out.1 V4.out.2.1 (Own.nil _ _) (Own.nil _ _) (Own.nil _ _) ⟨by first | (simp <;> omega) | omega | decide,by first | (simp <;> omega) | omega | decide,by simp,by simp,HTL.out⟩ (fun p hp e=>?_)
    obtain ⟨h5,h6,h8,h9⟩:=HU1.out p hp e
    have hk:=hp.kind
    exfalso
    have h11:=HWR.out.2
    rcases dv hp h5 h8 with ⟨a,b⟩ | ⟨a,b⟩ | ⟨a,b⟩ | ⟨a,b⟩ | ⟨a,b⟩ <;> first | (rw [HW0.out] at a;exact absurd a (by decide)) | omega
  by_cases w4:ws0=[115,119,97,112]
  case pos =>
   have nq1:(ws0=[103,101,116])=False:=eq_false (by rw [w4];decide)
   have nq3:(ws0=[100,101,108,101,116,101])=False:=eq_false (by rw [w4];decide)
   have nq2:(ws0=[112,117,116])=False:=eq_false (by rw [w4];decide)
   have nq5:(ws0=[115,99,97,110])=False:=eq_false (by rw [w4];decide)
   have HW0:Hid (ws0=[115,119,97,112]):=w4
   by_cases nn:n=5
   case pos =>
    subst nn
    obtain ⟨ws3,ws4,hwr⟩:∃ws3 ws4,wr=[ws3,ws4]:=by
     have h:=HWR.out.2
     match wr,h with
     | [],h=>simp at h
     | [_],h=>simp at h
     | [a,b],_=>exact ⟨a,b,rfl⟩
     | _ :: _ :: _ :: _,h=>simp at h
    have HD3:Hid (∀W,Blk W g 9 cur->W.cell? ⟨g,3,none⟩=some (.string ⟨ws3.toArray⟩)):=(HD.out 3 ws3 (by rw [HWR.out.1,hwr];rfl)).2
    have HY3:Hid (ws3.length<=20000):=(HD.out 3 ws3 (by rw [HWR.out.1,hwr];rfl)).1
    have HZ3:Hid (ws3.length<=100000):=by have:=HY3.out;unfold Hid;omega
    have HD4:Hid (∀W,Blk W g 9 cur->W.cell? ⟨g,4,none⟩=some (.string ⟨ws4.toArray⟩)):=(HD.out 4 ws4 (by rw [HWR.out.1,hwr];rfl)).2
    have HY4:Hid (ws4.length<=20000):=(HD.out 4 ws4 (by rw [HWR.out.1,hwr];rfl)).1
    have HZ4:Hid (ws4.length<=100000):=by have:=HY4.out;unfold Hid;omega
    have HWW:Hid (wr=[ws3,ws4]):=hwr
    clear hwr
    have y0:=V4.out.1.2.1.cell 0
    have yf:=V4.out.1.2.1.free 0
    go_upto_region 14 with fail
    clear y0 yf
    have Vk:Hid (UnS w r4 g cur #[.int .i64 4,.string ⟨ws1.toArray⟩,.slice f2 l2 q2,.slice none 0 0,.bool false,.slice none 0 0,.slice none 0 0,.int .i64 0] (z4.setCell ⟨r4,0,none⟩ (.int .i64 4))/\Own (z4.setCell ⟨r4,0,none⟩ (.int .i64 4)) w.heap.size (.slice f2 l2 q2) o2/\True):=⟨V4.out.1.put HB.out 0 _,V4.out.1.own 0 _ V4.out.2.1,trivial⟩
    clear V4
    generalize (z4.setCell ⟨r4,0,none⟩ (.int .i64 4))=zk at Vk ⊢
    have y3:=Vk.out.1.2.1.cell 3
    have d4:=HD4.out _ Vk.out.1.2.2.1
    go_wp2_with (go_at_call 133;refine (es ws4 _ HZ4.out).mono ?_)
    rintro e xe ⟨ve,rfl,ho,hg⟩
    obtain ⟨fe,qe,ee⟩:=ho.seg.shape
    obtain ⟨oe,hoe⟩:∃o,Names.aZ ws4=o:=⟨_,rfl⟩
    have HOe:Hid (Names.aZ ws4=oe):=hoe
    rw [hoe] at ho ee
    obtain ⟨le,hle⟩:∃l,oe.length=l:=⟨_,rfl⟩
    rw [hle] at ee
    subst ee
    have Ue:Hid (UnS w r4 g cur #[.int .i64 4,.string ⟨ws1.toArray⟩,.slice f2 l2 q2,.slice none 0 0,.bool false,.slice none 0 0,.slice none 0 0,.int .i64 0] xe/\Own xe w.heap.size (.slice f2 l2 q2) o2/\Own xe w.heap.size (.slice fe le qe) oe/\True):=⟨Vk.out.1.grown hg,Vk.out.2.1.grown hg,ho.mono Vk.out.1.2.2.2.size,trivial⟩
    clear ho hg hoe hle y3 d4 Vk
    have y3:=Ue.out.1.2.1.cell 3
    have yf:=Ue.out.1.2.1.free 3
    go_upto_region 15 with fail
    clear y3 yf
    have Ve:Hid (UnS w r4 g cur #[.int .i64 4,.string ⟨ws1.toArray⟩,.slice f2 l2 q2,.slice fe le qe,.bool false,.slice none 0 0,.slice none 0 0,.int .i64 0] (xe.setCell ⟨r4,3,none⟩ (.slice fe le qe))/\Own (xe.setCell ⟨r4,3,none⟩ (.slice fe le qe)) w.heap.size (.slice f2 l2 q2) o2/\Own (xe.setCell ⟨r4,3,none⟩ (.slice fe le qe)) w.heap.size (.slice fe le qe) oe/\True):=⟨Ue.out.1.put HB.out 3 _,Ue.out.1.own 3 _ Ue.out.2.1,Ue.out.1.own 3 _ Ue.out.2.2.1,trivial⟩
    clear Ue
    generalize (xe.setCell ⟨r4,3,none⟩ (.slice fe le qe))=ze at Ve ⊢
    rcases (show (∃r,ws3=43 :: r)\/(∀r,ws3≠43 :: r) from by
     by_cases h:∃r,ws3=43 :: r
     ·exact .inl h
     ·exact .inr (fun r e=>h ⟨r,e⟩)) with ⟨rr,hrr⟩ | hno
    case inl =>
     have d3:=HD3.out _ Ve.out.1.2.2.1
     have lz:(0:Int)<(ws3.length:Int):=by rw [hrr];simp only [List.length_cons];omega
     have lz2:0<ws3.length:=by rw [hrr];simp
     have hidx:∀wk,(Instr.index 9 (.string ⟨ws3.toArray⟩) (.int .i64 0)).run Tryz.prog wk=.ok (.int .u8 43) wk:=fun wk=>by have:=Names.bf ws3 0 lz2 wk;simpa [hrr] using this
     have hsl:∀wk,(Instr.slice 9 (.string ⟨ws3.toArray⟩) (some (.int .i64 1)) none none).run Tryz.prog wk=.ok (.string ⟨rr.toArray⟩) wk:=fun wk=>by have:=Names.fZ ws3 1 (by omega) wk;rw [show ws3.drop 1=rr by rw [hrr];rfl] at this;exact this
     have HRR:Hid (ws3=43 :: rr):=hrr
     have HZa:Hid (rr.length<=100000):=by have h:=HZ3.out;rw [hrr] at h;unfold Hid;simp at h;omega
     clear hrr
     have y4:=Ve.out.1.2.1.cell 4
     have yf:=Ve.out.1.2.1.free 4
     go_upto_region 16 with fail
     clear y4 yf d3
     have Vh:Hid (UnS w r4 g cur #[.int .i64 4,.string ⟨ws1.toArray⟩,.slice f2 l2 q2,.slice fe le qe,.bool true,.slice none 0 0,.slice none 0 0,.int .i64 0] (ze.setCell ⟨r4,4,none⟩ (.bool true))/\Own (ze.setCell ⟨r4,4,none⟩ (.bool true)) w.heap.size (.slice f2 l2 q2) o2/\Own (ze.setCell ⟨r4,4,none⟩ (.bool true)) w.heap.size (.slice fe le qe) oe/\True):=⟨Ve.out.1.put HB.out 4 _,Ve.out.1.own 4 _ Ve.out.2.1,Ve.out.1.own 4 _ Ve.out.2.2.1,trivial⟩
     clear Ve
     generalize (ze.setCell ⟨r4,4,none⟩ (.bool true))=zh at Vh ⊢
     have y5:=Vh.out.1.2.1.cell 5
     have d3:=HD3.out _ Vh.out.1.2.2.1
     have y4:=Vh.out.1.2.1.cell 4
     go_wp2_with (go_at_call 133;refine (es rr _ HZa.out).mono ?_)
     rintro e xr ⟨vr,rfl,ho,hg⟩
     obtain ⟨fr,qr,er⟩:=ho.seg.shape
     obtain ⟨or_,hor⟩:∃o,Names.aZ rr=o:=⟨_,rfl⟩
     have HOr:Hid (Names.aZ rr=or_):=hor
     rw [hor] at ho er
     obtain ⟨lr,hlr⟩:∃l,or_.length=l:=⟨_,rfl⟩
     rw [hlr] at er
     subst er
     have Ur:Hid (UnS w r4 g cur #[.int .i64 4,.string ⟨ws1.toArray⟩,.slice f2 l2 q2,.slice fe le qe,.bool true,.slice none 0 0,.slice none 0 0,.int .i64 0] xr/\Own xr w.heap.size (.slice f2 l2 q2) o2/\Own xr w.heap.size (.slice fe le qe) oe/\Own xr w.heap.size (.slice fr lr qr) or_/\True):=⟨Vh.out.1.grown hg,Vh.out.2.1.grown hg,Vh.out.2.2.1.grown hg,ho.mono Vh.out.1.2.2.2.size,trivial⟩
     clear ho hg hor hlr y5 d3 Vh
     have y5:=Ur.out.1.2.1.cell 5
     have yf:=Ur.out.1.2.1.free 5
     go_wp2_with fail
     clear y5 yf y4
     have Vr:Hid (UnS w r4 g cur #[.int .i64 4,.string ⟨ws1.toArray⟩,.slice f2 l2 q2,.slice fe le qe,.bool true,.slice fr lr qr,.slice none 0 0,.int .i64 0] (xr.setCell ⟨r4,5,none⟩ (.slice fr lr qr))/\Own (xr.setCell ⟨r4,5,none⟩ (.slice fr lr qr)) w.heap.size (.slice f2 l2 q2) o2/\Own (xr.setCell ⟨r4,5,none⟩ (.slice fr lr qr)) w.heap.size (.slice fe le qe) oe/\Own (xr.setCell ⟨r4,5,none⟩ (.slice fr lr qr)) w.heap.size (.slice fr lr qr) or_/\True):=⟨Ur.out.1.put HB.out 5 _,Ur.out.1.own 5 _ Ur.out.2.1,Ur.out.1.own 5 _ Ur.out.2.2.1,Ur.out.1.own 5 _ Ur.out.2.2.2.1,trivial⟩
     clear Ur
     generalize (xr.setCell ⟨r4,5,none⟩ (.slice fr lr qr))=zr at Vr ⊢
     go_meet
     case rel =>
      refine dw ⟨4,ws1,o2,oe,true,or_,[],0⟩ Vr.out.1 Vr.out.2.1 (Vr.out.2.2.1) (Vr.out.2.2.2.1) (Own.nil _ _) ⟨by first | (simp <;> omega) | omega | decide,by first | (simp <;> omega) | omega | decide,by simp,by simp,HTL.out⟩ (fun p hp e=>?_)
      obtain ⟨h5,h6,h8,h9⟩:=HU1.out p hp e
      have hk:=hp.kind
      have hkk:p.kind=4:=by
       have hc:p.kind=1\/p.kind=2\/p.kind=3\/p.kind=4\/p.kind=5:=by omega
       rcases hc with hc | hc | hc | hc | hc <;> first | exact hc | (rw [HW0.out,hc] at h5;exact absurd h5 (by decide))
      have hn:=hp.named
      rw [HWW.out] at h8
      unfold aA at h8
      rw [if_neg (by omega),if_pos hkk] at h8
      simp only [List.cons.injEq,and_true] at h8
      have h10:oe=p.value:=by rw [<-HOe.out,h8.2];exact (Names.dq _).1
      rw [named,if_neg (by omega),if_neg (by omega),if_pos hkk] at hn
      have hold:=h8.1
      unfold oldW at hold
      rw [HRR.out] at hold
      cases hh:p.has
      ·rw [hh] at hold;simp at hold
      ·rw [hh] at hold
       have h11:or_=p.old:=by rw [<-HOr.out,(by simpa using hold:rr=Names.txt p.old)];exact (Names.dq _).1
       rw [hn,h6,<-h9,<-h10,<-h11,hkk,hh]
    have d3:=HD3.out _ Ve.out.1.2.2.1
    have y4:=Ve.out.1.2.1.cell 4
    have yf:=Ve.out.1.2.1.free 4
    have HNO:Hid (∀r,ws3≠43 :: r):=hno
    clear hno
    rcases (show ws3=[]\/∃c r,ws3=c :: r from by cases ws3 with | nil=>exact .inl rfl | cons c r=>exact .inr ⟨c,r,rfl⟩) with h3e | ⟨c3,r3,h3e⟩
    case inl =>
     have lz:ws3.length=0:=by rw [h3e];rfl
     have lz2:((ws3.length:Int)=0)=True:=eq_true (by omega)
     have lz3:((0:Int)<(ws3.length:Int))=False:=eq_false (by omega)
     have lz4:(0<ws3.length)=False:=eq_false (by omega)
     clear h3e
     go_upto_region 16 with fail
     clear y4 yf d3
     have Vh:Hid (UnS w r4 g cur #[.int .i64 4,.string ⟨ws1.toArray⟩,.slice f2 l2 q2,.slice fe le qe,.bool false,.slice none 0 0,.slice none 0 0,.int .i64 0] (ze.setCell ⟨r4,4,none⟩ (.bool false))/\Own (ze.setCell ⟨r4,4,none⟩ (.bool false)) w.heap.size (.slice f2 l2 q2) o2/\Own (ze.setCell ⟨r4,4,none⟩ (.bool false)) w.heap.size (.slice fe le qe) oe/\True):=⟨Ve.out.1.put HB.out 4 _,Ve.out.1.own 4 _ Ve.out.2.1,Ve.out.1.own 4 _ Ve.out.2.2.1,trivial⟩
     clear Ve
     generalize (ze.setCell ⟨r4,4,none⟩ (.bool false))=zh at Vh ⊢
     have y4:=Vh.out.1.2.1.cell 4
     go_wp2_with fail
     clear y4
     go_meet
     case rel =>
      refine dw ⟨4,ws1,o2,oe,false,[],[],0⟩ Vh.out.1 Vh.out.2.1 (Vh.out.2.2.1) (Own.nil _ _) (Own.nil _ _) ⟨by first | (simp <;> omega) | omega | decide,by first | (simp <;> omega) | omega | decide,by simp,by simp,HTL.out⟩ (fun p hp e=>?_)
      obtain ⟨h5,h6,h8,h9⟩:=HU1.out p hp e
      have hk:=hp.kind
      have hkk:p.kind=4:=by
       have hc:p.kind=1\/p.kind=2\/p.kind=3\/p.kind=4\/p.kind=5:=by omega
       rcases hc with hc | hc | hc | hc | hc <;> first | exact hc | (rw [HW0.out,hc] at h5;exact absurd h5 (by decide))
      have hn:=hp.named
      rw [HWW.out] at h8
      unfold aA at h8
      rw [if_neg (by omega),if_pos hkk] at h8
      simp only [List.cons.injEq,and_true] at h8
      have h10:oe=p.value:=by rw [<-HOe.out,h8.2];exact (Names.dq _).1
      rw [named,if_neg (by omega),if_neg (by omega),if_pos hkk] at hn
      have hold:=h8.1
      unfold oldW at hold
      cases hh:p.has
      ·have h11:=hp.has hh
       rw [hn,h6,<-h9,<-h10,h11,hkk,hh]
      ·rw [hh] at hold
       exact absurd hold (HNO.out _)
    have lz:(0:Int)<(ws3.length:Int):=by rw [h3e];simp only [List.length_cons];omega
    have lz2:0<ws3.length:=by rw [h3e];simp
    have hidx:∀wk,(Instr.index 9 (.string ⟨ws3.toArray⟩) (.int .i64 0)).run Tryz.prog wk=.ok (.int .u8 (c3.toNat:Int)) wk:=fun wk=>by have:=Names.bf ws3 0 lz2 wk;simpa [h3e] using this
    have hne:c3.toNat≠43:=fun e=>HNO.out r3 (by rw [h3e];congr 1;exact UInt8.toNat_inj.1 (by simpa using e))
    have lz3:((c3.toNat:Int)=43)=False:=eq_false (by omega)
    have lz4:((c3.toNat:Int)==43)=false:=by rw [beq_eq_false_iff_ne];omega
    clear h3e hne
    go_upto_region 16 with fail
    clear y4 yf d3
    have Vh:Hid (UnS w r4 g cur #[.int .i64 4,.string ⟨ws1.toArray⟩,.slice f2 l2 q2,.slice fe le qe,.bool false,.slice none 0 0,.slice none 0 0,.int .i64 0] (ze.setCell ⟨r4,4,none⟩ (.bool false))/\Own (ze.setCell ⟨r4,4,none⟩ (.bool false)) w.heap.size (.slice f2 l2 q2) o2/\Own (ze.setCell ⟨r4,4,none⟩ (.bool false)) w.heap.size (.slice fe le qe) oe/\True):=⟨Ve.out.1.put HB.out 4 _,Ve.out.1.own 4 _ Ve.out.2.1,Ve.out.1.own 4 _ Ve.out.2.2.1,trivial⟩
    clear Ve
    generalize (ze.setCell ⟨r4,4,none⟩ (.bool false))=zh at Vh ⊢
    have y4:=Vh.out.1.2.1.cell 4
    go_wp2_with fail
    clear y4
    go_meet
    case rel =>
     refine dw ⟨4,ws1,o2,oe,false,[],[],0⟩ Vh.out.1 Vh.out.2.1 (Vh.out.2.2.1) (Own.nil _ _) (Own.nil _ _) ⟨by first | (simp <;> omega) | omega | decide,by first | (simp <;> omega) | omega | decide,by simp,by simp,HTL.out⟩ (fun p hp e=>?_)
     obtain ⟨h5,h6,h8,h9⟩:=HU1.out p hp e
     have hk:=hp.kind
     have hkk:p.kind=4:=by
      have hc:p.kind=1\/p.kind=2\/p.kind=3\/p.kind=4\/p.kind=5:=by omega
      rcases hc with hc | hc | hc | hc | hc <;> first | exact hc | (rw [HW0.out,hc] at h5;exact absurd h5 (by decide))
     have hn:=hp.named
     rw [HWW.out] at h8
     unfold aA at h8
     rw [if_neg (by omega),if_pos hkk] at h8
     simp only [List.cons.injEq,and_true] at h8
     have h10:oe=p.value:=by rw [<-HOe.out,h8.2];exact (Names.dq _).1
     rw [named,if_neg (by omega),if_neg (by omega),if_pos hkk] at hn
     have hold:=h8.1
     unfold oldW at hold
     cases hh:p.has
     ·have h11:=hp.has hh
      rw [hn,h6,<-h9,<-h10,h11,hkk,hh]
     ·rw [hh] at hold
      exact absurd hold (HNO.out _)
   have n1:((n:Int)=5)=False:=eq_false (by omega)
   have n2:((n:Int)==5)=false:=by rw [beq_eq_false_iff_ne];omega
   have n3:(n=5)=False:=eq_false nn
   go_wp2_with fail
   go_meet
   case rel =>
    refine dw ⟨0,ws1,o2,[],false,[],[],0⟩ V4.out.1 V4.out.2.1 (Own.nil _ _) (Own.nil _ _) (Own.nil _ _) ⟨by first | (simp <;> omega) | omega | decide,by first | (simp <;> omega) | omega | decide,by simp,by simp,HTL.out⟩ (fun p hp e=>?_)
    obtain ⟨h5,h6,h8,h9⟩:=HU1.out p hp e
    have hk:=hp.kind
    exfalso
    have h11:=HWR.out.2
    rcases dv hp h5 h8 with ⟨a,b⟩ | ⟨a,b⟩ | ⟨a,b⟩ | ⟨a,b⟩ | ⟨a,b⟩ <;> first | (rw [HW0.out] at a;exact absurd a (by decide)) | omega
  by_cases w5:ws0=[115,99,97,110]
  case pos =>
   have nq1:(ws0=[103,101,116])=False:=eq_false (by rw [w5];decide)
   have nq3:(ws0=[100,101,108,101,116,101])=False:=eq_false (by rw [w5];decide)
   have nq2:(ws0=[112,117,116])=False:=eq_false (by rw [w5];decide)
   have nq4:(ws0=[115,119,97,112])=False:=eq_false (by rw [w5];decide)
   have HW0:Hid (ws0=[115,99,97,110]):=w5
   by_cases nn:n=5
   case pos =>
    subst nn
    obtain ⟨ws3,ws4,hwr⟩:∃ws3 ws4,wr=[ws3,ws4]:=by
     have h:=HWR.out.2
     match wr,h with
     | [],h=>simp at h
     | [_],h=>simp at h
     | [a,b],_=>exact ⟨a,b,rfl⟩
     | _ :: _ :: _ :: _,h=>simp at h
    have HD3:Hid (∀W,Blk W g 9 cur->W.cell? ⟨g,3,none⟩=some (.string ⟨ws3.toArray⟩)):=(HD.out 3 ws3 (by rw [HWR.out.1,hwr];rfl)).2
    have HY3:Hid (ws3.length<=20000):=(HD.out 3 ws3 (by rw [HWR.out.1,hwr];rfl)).1
    have HZ3:Hid (ws3.length<=100000):=by have:=HY3.out;unfold Hid;omega
    have HD4:Hid (∀W,Blk W g 9 cur->W.cell? ⟨g,4,none⟩=some (.string ⟨ws4.toArray⟩)):=(HD.out 4 ws4 (by rw [HWR.out.1,hwr];rfl)).2
    have HY4:Hid (ws4.length<=20000):=(HD.out 4 ws4 (by rw [HWR.out.1,hwr];rfl)).1
    have HZ4:Hid (ws4.length<=100000):=by have:=HY4.out;unfold Hid;omega
    have HWW:Hid (wr=[ws3,ws4]):=hwr
    clear hwr
    have y0:=V4.out.1.2.1.cell 0
    have yf:=V4.out.1.2.1.free 0
    go_upto_region 20 with fail
    clear y0 yf
    have Vk:Hid (UnS w r4 g cur #[.int .i64 5,.string ⟨ws1.toArray⟩,.slice f2 l2 q2,.slice none 0 0,.bool false,.slice none 0 0,.slice none 0 0,.int .i64 0] (z4.setCell ⟨r4,0,none⟩ (.int .i64 5))/\Own (z4.setCell ⟨r4,0,none⟩ (.int .i64 5)) w.heap.size (.slice f2 l2 q2) o2/\True):=⟨V4.out.1.put HB.out 0 _,V4.out.1.own 0 _ V4.out.2.1,trivial⟩
    clear V4
    generalize (z4.setCell ⟨r4,0,none⟩ (.int .i64 5))=zk at Vk ⊢
    have y6:=Vk.out.1.2.1.cell 6
    have d3:=HD3.out _ Vk.out.1.2.2.1
    go_wp2_with (go_at_call 133;refine (es ws3 _ HZ3.out).mono ?_)
    rintro e xe ⟨ve,rfl,ho,hg⟩
    obtain ⟨fe,qe,ee⟩:=ho.seg.shape
    obtain ⟨oe,hoe⟩:∃o,Names.aZ ws3=o:=⟨_,rfl⟩
    have HOe:Hid (Names.aZ ws3=oe):=hoe
    rw [hoe] at ho ee
    obtain ⟨le,hle⟩:∃l,oe.length=l:=⟨_,rfl⟩
    rw [hle] at ee
    subst ee
    have Ue:Hid (UnS w r4 g cur #[.int .i64 5,.string ⟨ws1.toArray⟩,.slice f2 l2 q2,.slice none 0 0,.bool false,.slice none 0 0,.slice none 0 0,.int .i64 0] xe/\Own xe w.heap.size (.slice f2 l2 q2) o2/\Own xe w.heap.size (.slice fe le qe) oe/\True):=⟨Vk.out.1.grown hg,Vk.out.2.1.grown hg,ho.mono Vk.out.1.2.2.2.size,trivial⟩
    clear ho hg hoe hle y6 d3 Vk
    have y6:=Ue.out.1.2.1.cell 6
    have yf:=Ue.out.1.2.1.free 6
    go_upto_region 21 with fail
    clear y6 yf
    have Ve:Hid (UnS w r4 g cur #[.int .i64 5,.string ⟨ws1.toArray⟩,.slice f2 l2 q2,.slice none 0 0,.bool false,.slice none 0 0,.slice fe le qe,.int .i64 0] (xe.setCell ⟨r4,6,none⟩ (.slice fe le qe))/\Own (xe.setCell ⟨r4,6,none⟩ (.slice fe le qe)) w.heap.size (.slice f2 l2 q2) o2/\Own (xe.setCell ⟨r4,6,none⟩ (.slice fe le qe)) w.heap.size (.slice fe le qe) oe/\True):=⟨Ue.out.1.put HB.out 6 _,Ue.out.1.own 6 _ Ue.out.2.1,Ue.out.1.own 6 _ Ue.out.2.2.1,trivial⟩
    clear Ue
    generalize (xe.setCell ⟨r4,6,none⟩ (.slice fe le qe))=ze at Ve ⊢
    have d4:=HD4.out _ Ve.out.1.2.2.1
    go_wp2_with (go_at_call 134;refine (rP ws4 _ HY4.out (HE.out.grown Ve.out.1.2.2.2)).mono ?_)
    rintro e xa ⟨na,va,rfl,ha1,ha2,hg,hS⟩
    have HSA:Hid (∀m:Nat,m<100->ws4=Lib.decDigits m->na=m):=hS
    have Ua:Hid (UnS w r4 g cur #[.int .i64 5,.string ⟨ws1.toArray⟩,.slice f2 l2 q2,.slice none 0 0,.bool false,.slice none 0 0,.slice fe le qe,.int .i64 0] xa/\Own xa w.heap.size (.slice f2 l2 q2) o2/\Own xa w.heap.size (.slice fe le qe) oe/\True):=⟨Ve.out.1.grown hg,Ve.out.2.1.grown hg,Ve.out.2.2.1.grown hg,trivial⟩
    clear hg hS d4 Ve
    have y7:=Ua.out.1.2.1.cell 7
    have yf:=Ua.out.1.2.1.free 7
    go_wp2_with fail
    clear y7 yf
    have Vm:Hid (UnS w r4 g cur #[.int .i64 5,.string ⟨ws1.toArray⟩,.slice f2 l2 q2,.slice none 0 0,.bool false,.slice none 0 0,.slice fe le qe,.int .i64 na] (xa.setCell ⟨r4,7,none⟩ (.int .i64 na))/\Own (xa.setCell ⟨r4,7,none⟩ (.int .i64 na)) w.heap.size (.slice f2 l2 q2) o2/\Own (xa.setCell ⟨r4,7,none⟩ (.int .i64 na)) w.heap.size (.slice fe le qe) oe/\True):=⟨Ua.out.1.put HB.out 7 _,Ua.out.1.own 7 _ Ua.out.2.1,Ua.out.1.own 7 _ Ua.out.2.2.1,trivial⟩
    clear Ua
    generalize (xa.setCell ⟨r4,7,none⟩ (.int .i64 na))=zm at Vm ⊢
    go_meet
    case rel =>
     refine dw ⟨5,ws1,o2,[],false,[],oe,na⟩ Vm.out.1 Vm.out.2.1 (Own.nil _ _) (Own.nil _ _) (Vm.out.2.2.1) ⟨by first | (simp <;> omega) | omega | decide,by first | (simp <;> omega) | omega | decide,by simpa using ha1,by simpa using ha2,HTL.out⟩ (fun p hp e=>?_)
     obtain ⟨h5,h6,h8,h9⟩:=HU1.out p hp e
     have hk:=hp.kind
     have hkk:p.kind=5:=by
      have hc:p.kind=1\/p.kind=2\/p.kind=3\/p.kind=4\/p.kind=5:=by omega
      rcases hc with hc | hc | hc | hc | hc <;> first | exact hc | (rw [HW0.out,hc] at h5;exact absurd h5 (by decide))
     have hn:=hp.named
     rw [HWW.out] at h8
     unfold aA at h8
     rw [if_neg (by omega),if_neg (by omega),if_pos hkk] at h8
     simp only [List.cons.injEq,and_true] at h8
     have hmo:=hp.most hkk
     have h10:oe=p.to:=by rw [<-HOe.out,h8.1];exact (Names.dq _).1
     have h11:na=p.most:=by have:=HSA.out p.most.toNat (by omega) h8.2;omega
     rw [named,if_neg (by omega),if_neg (by omega),if_neg (by omega),if_pos hkk] at hn
     rw [hn,h6,<-h9,<-h10,<-h11,hkk]
   have n1:((n:Int)=5)=False:=eq_false (by omega)
   have n2:((n:Int)==5)=false:=by rw [beq_eq_false_iff_ne];omega
   have n3:(n=5)=False:=eq_false nn
   go_wp2_with fail
   go_meet
   case rel =>
    refine dw ⟨0,ws1,o2,[],false,[],[],0⟩ V4.out.1 V4.out.2.1 (Own.nil _ _) (Own.nil _ _) (Own.nil _ _) ⟨by first | (simp <;> omega) | omega | decide,by first | (simp <;> omega) | omega | decide,by simp,by simp,HTL.out⟩ (fun p hp e=>?_)
    obtain ⟨h5,h6,h8,h9⟩:=HU1.out p hp e
    have hk:=hp.kind
    exfalso
    have h11:=HWR.out.2
    rcases dv hp h5 h8 with ⟨a,b⟩ | ⟨a,b⟩ | ⟨a,b⟩ | ⟨a,b⟩ | ⟨a,b⟩ <;> first | (rw [HW0.out] at a;exact absurd a (by decide)) | omega
  have nq1:(ws0=[103,101,116])=False:=eq_false w1
  have nq3:(ws0=[100,101,108,101,116,101])=False:=eq_false w3
  have nq2:(ws0=[112,117,116])=False:=eq_false w2
  have nq4:(ws0=[115,119,97,112])=False:=eq_false w4
  have nq5:(ws0=[115,99,97,110])=False:=eq_false w5
  go_wp2_with fail
  go_meet
  case rel =>
   refine dw ⟨0,ws1,o2,[],false,[],[],0⟩ V4.out.1 V4.out.2.1 (Own.nil _ _) (Own.nil _ _) (Own.nil _ _) ⟨by first | (simp <;> omega) | omega | decide,by first | (simp <;> omega) | omega | decide,by simp,by simp,HTL.out⟩ (fun p hp e=>?_)
   obtain ⟨h5,h6,h8,h9⟩:=HU1.out p hp e
   have hk:=hp.kind
   exfalso
   have h11:=HWR.out.2
   rcases dv hp h5 h8 with ⟨a,b⟩ | ⟨a,b⟩ | ⟨a,b⟩ | ⟨a,b⟩ | ⟨a,b⟩ <;> first | exact absurd a w1 | exact absurd a w3 | exact absurd a w2 | exact absurd a w4 | exact absurd a w5
 case rest =>
 obtain ⟨a1,a2,a3,a4,b1,b2,b3,b4,c1,c2,c3,c4,o,HE2⟩:=hcut
 obtain ⟨y0,y1,y2,y3,y4,y5,y6,y7⟩:=aW HE2.out.2.1
 obtain ⟨r0,r1,r2,r3,r4',r5',r6,r7⟩:=aW HE2.out.1
 obtain ⟨zf0,zf1,zf2,zf3,zf4,zf5,zf6,zf7⟩:=cK HE2.out.1
 go_wp2_with fail
 have hb:=((((((((HE2.out.1.store 0 (.int .i64 o.kind)).store 1 (.string ⟨o.table.toArray⟩)).store 2 (.slice a1 b1 c1)).store 3 (.slice a2 b2 c2)).store 4 (.bool o.has)).store 5 (.slice a3 b3 c3)).store 6 (.slice a4 b4 c4)).store 7 (.int .i64 o.most))
 refine bodyPost_ret (v:=_) (results_cell_row rfl _ _ w.heap.size 53 _ (0,0) _ rfl hb Tryz.underlying53 rfl (by kernel_rfl)) rfl ?_
 have hg:=cq wc w.heap.size (.int .i64 o.kind) (.string ⟨o.table.toArray⟩) (.slice a1 b1 c1) (.slice a2 b2 c2) (.bool o.has) (.slice a3 b3 c3) (.slice a4 b4 c4) (.int .i64 o.most)
 exact ⟨_,_,_,_,o,rfl,HE2.out.2.2.1.set HE2.out.1 (by decide) hg,ag HE2.out.2.2.2.1 hg (fun y hy=>by simp at hy;omega),HE2.out.2.2.2.2⟩
end Go.Proofs.YtgjcpjckaopeeaaGreatDoor.Calls
