import Derived.Test.YtgjcpjckaopeeaaGreatDoorRrAll
import Derived.Test.YtgjcpjckaopeeaaGreatDoorPk
import Derived.Test.YtgjcpjckaopeeaaGreatDoorCallsSp
import Derived.Deep.DeepCutAuto
set_option maxHeartbeats 16000000
set_option maxRecDepth 100000
namespace Go.Proofs.YtgjcpjckaopeeaaGreatDoor
open Go.RowKit Disk
open Go.Proofs.YtgjcpjckaopeeaaGreatDoor.Calls
open Names (Str)
theorem ea {w w':World}{B:Nat}{v:Value}{l:List POp}(h:am w B v l)(hs:∀k,B<=k->k<w.heap.size->w'.heap[k]? = w.heap[k]?):am w' B v l:=by
 obtain ⟨⟨vs,h1,h2,h3,h4⟩,h5⟩:=h
 have hlt:=fun k hk=>World.ownsRow.lt h1 k hk
 refine ⟨⟨vs,⟨h1.1,?_⟩,h2,h3,fun j hj hj'=>?_⟩,h5⟩
 ·rcases h1.2 with h | ⟨g,cap,cur,e,hb,hg,r⟩
  ·exact .inl h
  ·refine .inr ⟨g,cap,cur,e,hb,?_,r⟩
   rw [hs g hb (hlt g (by rw [e];simp [Value.ownBlock])).2]
   exact hg
 ·obtain ⟨k,x,ol,t,e,ho⟩:=h4 j hj hj'
  have cs:∀{y:Value} {L:Bs},Names.Cut w B y L->Names.Cut w' B y L:=fun hy=>hy.same fun k hk=>hs k (hy.lt k hk).1 (hy.lt k hk).2
  exact ⟨k,x,ol,t,e,cs ho.key,cs ho.value,cs ho.old,cs ho.tos,ho.fits⟩
theorem gK (a b:Value)(A:PCmd)(w:World)(ha:Ops w a A.ops)(hb:Ops w b A.ops):Calls Tryz.prog 16 #[.agg #[.int .i64 A.kind,.int .i64 A.token,.int .i64 A.session,.int .i64 A.number,.int .i64 A.mark,a],.agg #[.int .i64 A.kind,.int .i64 A.token,.int .i64 A.session,.int .i64 A.number,.int .i64 A.mark,b]] w fun e w'=>e=.returned (.bool true)/\w.grownBy w' none:=by
 have:=tW a b A A w ha hb
 simp only [decide_true] at this
 exact this
def uN (w:World)(l:PCmd)(c:Int)(e:Ending)(w':World):Prop:=∃xo xn xc,e=.returned (.tuple #[.agg #[.int .i64 l.kind,.int .i64 l.token,.int .i64 l.session,.int .i64 l.number,.int .i64 l.mark,.slice xo xn xc],.int .i64 c])/\am w' w.heap.size (.slice xo xn xc) l.ops/\w.grownBy w' none
theorem fh {w:World}{r:PCmd × Int}{e:Ending}{w':World}{l:PCmd}{c:Int}(h:d9 w r e w')(hr:r=(l,c)):uN w l c e w':=by
 subst hr
 obtain ⟨u,he,ho,hg⟩:=h
 obtain ⟨x,n,y,rfl,_⟩:=ho.slice
 exact ⟨x,n,y,he,ho,hg⟩
theorem ue (v:Value)(L s:Bs)(w:World)(hv:Seg w v L)(hE:EnvC w)(hls:s.length<=9223372036854775807) :
  Calls Tryz.prog 4 #[v,.string ⟨s.toArray⟩] w fun e w'=>e=.returned (.bool true)/\w.grownBy w' none:=by
 have HE:Hid (EnvC w):=hE
 have HV:Hid (Seg w v L):=hv
 have hlv:=hv.len
 obtain ⟨f,q,e⟩:=hv.shape
 obtain ⟨n,hn⟩:∃n,L.length=n:=⟨_,rfl⟩
 rw [hn] at e hlv
 subst e
 have HN:Hid (L.length=n):=hn
 obtain ⟨X,hX⟩:∃X:ByteArray,X=⟨s.toArray⟩:=⟨_,rfl⟩
 obtain ⟨sn,hsn⟩:∃n,s.length=n:=⟨_,rfl⟩
 have hsz:X.size=sn:=by rw [hX];simp [ByteArray.size,hsn]
 have HX:Hid (X=⟨s.toArray⟩/\s.length=sn):=⟨hX,hsn⟩
 rw [hsn] at hls
 rw [<-hX]
 clear hX hsn hn hv hE
 by_cases hbig:6000<n\/13000<sn
 case pos =>
  rcases hbig with h | h
  case inl =>
   have i1:(6000:Int)<(n:Int):=by omega
   go_enter Tryz.func4,Tryz.ntmps4
   go_wp2_with (go_at_call 7;refine (jZ _ HE.out).mono ?_)
   rintro e w1 ⟨rfl,hg⟩
   go_wp2_with fail
   go_ret
   exact ⟨rfl,hg⟩
  case inr =>
   have i2:(13000:Int)<(sn:Int):=by omega
   by_cases h5:6000<n
   case pos =>
    have i1:(6000:Int)<(n:Int):=by omega
    go_enter Tryz.func4,Tryz.ntmps4
    go_wp2_with (go_at_call 7;refine (jZ _ HE.out).mono ?_)
    rintro e w1 ⟨rfl,hg⟩
    go_wp2_with fail
    go_ret
    exact ⟨rfl,hg⟩
   have i1:((6000:Int)<(n:Int))=False:=eq_false (by omega)
   go_enter Tryz.func4,Tryz.ntmps4
   go_wp2_with (go_at_call 7;refine (jZ _ HE.out).mono ?_)
   rintro e w1 ⟨rfl,hg⟩
   go_wp2_with fail
   go_ret
   exact ⟨rfl,hg⟩
 have i1:((6000:Int)<(n:Int))=False:=eq_false (by omega)
 have i2:((13000:Int)<(sn:Int))=False:=eq_false (by omega)
 have n5:n<=6000:=by omega
 have s13:sn<=13000:=by omega
 clear hbig hlv hls
 obtain ⟨A,c,hA⟩:∃A c,cg L=(A,c):=⟨_,_,rfl⟩
 have HA:Hid (cg L=(A,c)):=hA
 clear hA
 go_enter Tryz.func4,Tryz.ntmps4
 go_upto_region 3 with fail
 go_wp2_with (at_builtin;refine bJ _ rfl _ _ rfl w.heap.size (.slice none 0 0) [] _ L rfl rfl (Own.nil _ _) HV.out ?c0 ?c1 ?_)
 case c0=>rw [HN.out];simp;omega
 case c1=>omega
 intro v1 w1 ho hg _
 have P1:Hid (Own w1 w.heap.size v1 L/\w.grownBy w1 none):=⟨ho,ag (ai _ _) hg (fun x hx=>by simp [Value.ownBlock] at hx)⟩
 clear ho hg
 go_wp2_with (at_builtin;refine bJ _ rfl _ _ rfl w.heap.size _ L _ [119] rfl rfl (P1.out.1.alloc _) (Wire.gz w1 119 119 rfl).seg ?c0 ?c1 ?_)
 case c0=>rw [HN.out];simp;omega
 case c1=>have:=P1.out.2.size;simp;omega
 intro v2 w2 ho hg _
 have P2:Hid (Own w2 w.heap.size v2 (L ++ [119])/\w.grownBy w2 none):=⟨ho,ag (aa P1.out.2 gA_) hg (fun x hx=>(P1.out.1.lt x hx).1)⟩
 clear ho hg P1
 obtain ⟨f0,q0,e0⟩:=P2.out.1.seg.shape
 rw [List.length_append,HN.out] at e0
 simp only [List.length_cons,List.length_nil,Nat.zero_add] at e0
 subst e0
 have z1:n<=q0:=by have:=P2.out.1.seg;obtain ⟨_,_,h1,h2,_⟩:=this;simp [HN.out] at h1 h2;omega
 have OWB:Hid (∀k,(Value.slice f0 (n+1) q0).ownBlock=some k->w.heap.size<=k/\k<w2.heap.size):=fun k hk=>P2.out.1.lt k hk
 have HT:Hid (∀x:World,w2.grownBy x none->Seg x (.slice f0 n q0) L):=fun x hx=>by
  have h:=(P2.out.1.grown hx).seg
  have h2:Seg x (.slice f0 (L ++ [119]).length q0) (L ++ [119]):=by rw [List.length_append,HN.out];exact h
  have h3:=dT n (by rw [List.length_append,HN.out];simp) h2
  rw [List.take_append_of_le_length (by rw [HN.out];omega),List.take_of_length_le (by rw [HN.out];omega)] at h3
  exact h3
 go_upto_region 4 with fail
 have z0:(0:Int)<=(n:Int):=by omega
 have z2:(n:Int)<=(q0:Int):=by omega
 go_wp2_with fail
 go_simp
 refine ((mv _ L _ (HT.out _ (ai _ _)) (by rw [HN.out];omega)).mono (fun _ _ h=>fh h HA.out)).mono ?_
 rintro e w3 ⟨xo,xn,xc,rfl,hx,hg⟩
 have P3:Hid (am w3 w2.heap.size (.slice xo xn xc) A.ops/\w2.grownBy w3 none):=⟨hx,hg⟩
 clear hx hg
 go_simp
 go_upto_region 5 with fail
 have P4:Hid (w2.grownBy (w3.alloc (.cells #[.int .i64 A.kind,.int .i64 A.token,.int .i64 A.session,.int .i64 A.number,.int .i64 A.mark,.slice xo xn xc] 27)) none/\w3.grownBy (w3.alloc (.cells #[.int .i64 A.kind,.int .i64 A.token,.int .i64 A.session,.int .i64 A.number,.int .i64 A.mark,.slice xo xn xc] 27)) none/\Blk (w3.alloc (.cells #[.int .i64 A.kind,.int .i64 A.token,.int .i64 A.session,.int .i64 A.number,.int .i64 A.mark,.slice xo xn xc] 27)) w3.heap.size 27 #[.int .i64 A.kind,.int .i64 A.token,.int .i64 A.session,.int .i64 A.number,.int .i64 A.mark,.slice xo xn xc]):=⟨aa P3.out.2 gA_,World.grownBy_alloc _ _ none,heap_alloc_new w3 _⟩
 have SZ4:Hid ((w3.alloc (.cells #[.int .i64 A.kind,.int .i64 A.token,.int .i64 A.session,.int .i64 A.number,.int .i64 A.mark,.slice xo xn xc] 27)).heap.size=w3.heap.size+1):=by unfold Hid;simp
 generalize (w3.alloc (.cells #[.int .i64 A.kind,.int .i64 A.token,.int .i64 A.session,.int .i64 A.number,.int .i64 A.mark,.slice xo xn xc] 27))=w4 at P4 SZ4 ⊢
 go_wp2_with fail
 go_simp
 refine ((mv _ L _ (HT.out _ P4.out.1) (by rw [HN.out];omega)).mono (fun _ _ h=>fh h HA.out)).mono ?_
 rintro e w5 ⟨do_,dn,dc,rfl,hx,hg⟩
 have P5:Hid (am w5 w4.heap.size (.slice do_ dn dc) A.ops/\w4.grownBy w5 none):=⟨hx,hg⟩
 clear hx hg
 go_simp
 go_upto_region 6 with fail
 have P6:Hid (w5.grownBy (w5.alloc (.cells #[.int .i64 A.kind,.int .i64 A.token,.int .i64 A.session,.int .i64 A.number,.int .i64 A.mark,.slice do_ dn dc] 27)) none/\Blk (w5.alloc (.cells #[.int .i64 A.kind,.int .i64 A.token,.int .i64 A.session,.int .i64 A.number,.int .i64 A.mark,.slice do_ dn dc] 27)) w5.heap.size 27 #[.int .i64 A.kind,.int .i64 A.token,.int .i64 A.session,.int .i64 A.number,.int .i64 A.mark,.slice do_ dn dc]):=⟨World.grownBy_alloc _ _ none,heap_alloc_new w5 _⟩
 generalize (w5.alloc (.cells #[.int .i64 A.kind,.int .i64 A.token,.int .i64 A.session,.int .i64 A.number,.int .i64 A.mark,.slice do_ dn dc] 27))=w6 at P6 ⊢
 have GA:Hid (w.grownBy w6 none):=aa P2.out.2 (aa P4.out.1 (aa P5.out.2 P6.out.1))
 go_wp2_with (go_at_call 20;refine ((uq _ L _ (HV.out.grown GA.out) (by rw [HN.out];omega)).mono (fun _ _ h=>fh h HA.out)).mono ?_)
 rintro e w7 ⟨wo,wn,wc,rfl,hx,hg⟩
 have P7:Hid (am w7 w6.heap.size (.slice wo wn wc) A.ops/\w6.grownBy w7 none):=⟨hx,hg⟩
 clear hx hg
 go_upto_region 7 with fail
 have P8:Hid (w7.grownBy (w7.alloc (.cells #[.int .i64 A.kind,.int .i64 A.token,.int .i64 A.session,.int .i64 A.number,.int .i64 A.mark,.slice wo wn wc] 27)) none/\Blk (w7.alloc (.cells #[.int .i64 A.kind,.int .i64 A.token,.int .i64 A.session,.int .i64 A.number,.int .i64 A.mark,.slice wo wn wc] 27)) w7.heap.size 27 #[.int .i64 A.kind,.int .i64 A.token,.int .i64 A.session,.int .i64 A.number,.int .i64 A.mark,.slice wo wn wc]):=⟨World.grownBy_alloc _ _ none,heap_alloc_new w7 _⟩
 generalize (w7.alloc (.cells #[.int .i64 A.kind,.int .i64 A.token,.int .i64 A.session,.int .i64 A.number,.int .i64 A.mark,.slice wo wn wc] 27))=w8 at P8 ⊢
 obtain ⟨b6,hb6⟩:∃k,w3.heap.size=k:=⟨_,rfl⟩
 obtain ⟨b8,hb8⟩:∃k,w5.heap.size=k:=⟨_,rfl⟩
 obtain ⟨b10,hb10⟩:∃k,w7.heap.size=k:=⟨_,rfl⟩
 have ORD:Hid (w.heap.size<=w2.heap.size/\w2.heap.size<=b6/\w4.heap.size=b6+1/\w4.heap.size<=b8/\b8<w6.heap.size/\w6.heap.size<=b10):=by
  refine ⟨P2.out.2.size,by rw [<-hb6];exact P3.out.2.size,by rw [<-hb6];exact SZ4.out,by rw [<-hb8];exact P5.out.2.size,by have:=P6.out.2.lt;rw [hb8] at this;exact this,by rw [<-hb10];exact P7.out.2.size⟩
 have Q0:Hid (Own w8 w.heap.size (.slice f0 (n+1) q0) (L ++ [119])/\am w8 w4.heap.size (.slice do_ dn dc) A.ops/\am w8 w6.heap.size (.slice wo wn wc) A.ops/\Ops w8 (.slice xo xn xc) A.ops/\Blk w8 b6 27 #[.int .i64 A.kind,.int .i64 A.token,.int .i64 A.session,.int .i64 A.number,.int .i64 A.mark,.slice xo xn xc]/\Blk w8 b8 27 #[.int .i64 A.kind,.int .i64 A.token,.int .i64 A.session,.int .i64 A.number,.int .i64 A.mark,.slice do_ dn dc]/\Blk w8 b10 27 #[.int .i64 A.kind,.int .i64 A.token,.int .i64 A.session,.int .i64 A.number,.int .i64 A.mark,.slice wo wn wc]/\w.grownBy w8 none/\w3.grownBy w8 none):=by
  have g4:=aa P5.out.2 (aa P6.out.1 (aa P7.out.2 P8.out.1))
  have g6:=aa P7.out.2 P8.out.1
  have g2:=aa P4.out.1 g4
  have g3:=aa P4.out.2.1 g4
  exact ⟨P2.out.1.grown g2,P5.out.1.grown (aa P6.out.1 g6),P7.out.1.grown P8.out.1,P3.out.1.ops.grown g3,by rw [<-hb6];exact P4.out.2.2.grown g4 (by simp),by rw [<-hb8];exact P6.out.2.grown g6 (by simp),by rw [<-hb10];exact P8.out.2,aa P2.out.2 g2,g3⟩
 have HSP:Hid (∀x,w3.grownBy x none->Calls Tryz.prog 21 #[.agg #[.slice xo xn xc]] x fun e w'=>e=.returned (.tuple #[])/\Fr x w' (fun i=>w2.heap.size<=i/\i<b6)):=fun x hx=>by rw [<-hb6];exact rO _ A.ops w2.heap.size w3 x P3.out.1 hx
 rw [hb6,hb8,hb10]
 clear hb6 hb8 hb10 P3 P4 P5 P6 P7 P8 SZ4 GA P2
 have c6_0:=Q0.out.2.2.2.2.1.cell 0
 have c6_1:=Q0.out.2.2.2.2.1.cell 1
 have c6_2:=Q0.out.2.2.2.2.1.cell 2
 have c6_3:=Q0.out.2.2.2.2.1.cell 3
 have c6_4:=Q0.out.2.2.2.2.1.cell 4
 have c6_5:=Q0.out.2.2.2.2.1.cell 5
 simp at c6_0 c6_1 c6_2 c6_3 c6_4 c6_5
 have c10_0:=Q0.out.2.2.2.2.2.2.1.cell 0
 have c10_1:=Q0.out.2.2.2.2.2.2.1.cell 1
 have c10_2:=Q0.out.2.2.2.2.2.2.1.cell 2
 have c10_3:=Q0.out.2.2.2.2.2.2.1.cell 3
 have c10_4:=Q0.out.2.2.2.2.2.2.1.cell 4
 have c10_5:=Q0.out.2.2.2.2.2.2.1.cell 5
 simp at c10_0 c10_1 c10_2 c10_3 c10_4 c10_5
 go_wp2_with (go_at_call 16;refine (gK _ _ A _ Q0.out.2.2.2.1 Q0.out.2.2.1.ops).mono ?_)
 rintro e w9 ⟨rfl,hg⟩
 clear c6_0 c6_1 c6_2 c6_3 c6_4 c6_5 c10_0 c10_1 c10_2 c10_3 c10_4 c10_5
 have Q1:Hid (Own w9 w.heap.size (.slice f0 (n+1) q0) (L ++ [119])/\am w9 w4.heap.size (.slice do_ dn dc) A.ops/\am w9 w6.heap.size (.slice wo wn wc) A.ops/\Blk w9 b6 27 #[.int .i64 A.kind,.int .i64 A.token,.int .i64 A.session,.int .i64 A.number,.int .i64 A.mark,.slice xo xn xc]/\Blk w9 b8 27 #[.int .i64 A.kind,.int .i64 A.token,.int .i64 A.session,.int .i64 A.number,.int .i64 A.mark,.slice do_ dn dc]/\Blk w9 b10 27 #[.int .i64 A.kind,.int .i64 A.token,.int .i64 A.session,.int .i64 A.number,.int .i64 A.mark,.slice wo wn wc]/\w.grownBy w9 none/\w3.grownBy w9 none):=⟨Q0.out.1.grown hg,Q0.out.2.1.grown hg,Q0.out.2.2.1.grown hg,Q0.out.2.2.2.2.1.grown hg (by simp),Q0.out.2.2.2.2.2.1.grown hg (by simp),Q0.out.2.2.2.2.2.2.1.grown hg (by simp),aa Q0.out.2.2.2.2.2.2.2.1 hg,aa Q0.out.2.2.2.2.2.2.2.2 hg⟩
 clear hg Q0
 have e1:=aR Q1.out.1.seg
 have e2:=aR (HV.out.grown Q1.out.2.2.2.2.2.2.1)
 obtain ⟨L7,hL7⟩:∃M,L ++ [119]=M:=⟨_,rfl⟩
 have HL7:Hid (L ++ [119]=L7):=hL7
 have e3:∀wk,(Op.stringOp .add ⟨L.toArray⟩ ⟨#[119]⟩).run Tryz.prog wk=.ok (.string ⟨L7.toArray⟩) wk:=fun wk=>by rw [<-hL7];exact Names.gn L [119] wk (by rw [HN.out];simp;omega)
 rw [hL7] at e1
 clear hL7
 go_upto_region 9 with (go_at_call 12;refine (qN _ _).mono ?_;rintro e wnn ⟨rfl,hw⟩;rw [hw];clear hw)
 clear e1 e2 e3
 have c6_0:=Q1.out.2.2.2.1.cell 0
 have c6_1:=Q1.out.2.2.2.1.cell 1
 have c6_2:=Q1.out.2.2.2.1.cell 2
 have c6_3:=Q1.out.2.2.2.1.cell 3
 have c6_4:=Q1.out.2.2.2.1.cell 4
 have c6_5:=Q1.out.2.2.2.1.cell 5
 simp at c6_0 c6_1 c6_2 c6_3 c6_4 c6_5
 go_wp2_with (go_at_call 21;refine (HSP.out _ Q1.out.2.2.2.2.2.2.2).mono ?_)
 rintro e w10 ⟨rfl,hf⟩
 clear c6_0 c6_1 c6_2 c6_3 c6_4 c6_5
 have Q2:Hid (Own w10 w.heap.size (.slice f0 (n+1) q0) (L ++ [119])/\am w10 w4.heap.size (.slice do_ dn dc) A.ops/\am w10 w6.heap.size (.slice wo wn wc) A.ops/\(∃u0 u1 u2 u3 u4 u5,Blk w10 b6 27 #[u0,u1,u2,u3,u4,u5])/\Blk w10 b8 27 #[.int .i64 A.kind,.int .i64 A.token,.int .i64 A.session,.int .i64 A.number,.int .i64 A.mark,.slice do_ dn dc]/\Blk w10 b10 27 #[.int .i64 A.kind,.int .i64 A.token,.int .i64 A.session,.int .i64 A.number,.int .i64 A.mark,.slice wo wn wc]/\w.grownBy w10 none):=by
  obtain ⟨o1,o2,o3,o4,o5,o6⟩:=ORD.out
  have far:∀k,b6<=k->k<w9.heap.size->w10.heap[k]? = w9.heap[k]?:=fun k h1 h2=>hf.block k h2 (fun e=>by omega)
  refine ⟨Q1.out.1.same fun k hk=>hf.block k (Q1.out.1.lt k hk).2 (fun e=>by have:=(OWB.out k hk).2;omega),ea Q1.out.2.1 (fun k h1 h2=>far k (by omega) h2),ea Q1.out.2.2.1 (fun k h1 h2=>far k (by omega) h2),⟨_,_,_,_,_,_,Q1.out.2.2.2.1.same (far _ (by omega) Q1.out.2.2.2.1.lt)⟩,Q1.out.2.2.2.2.1.same (far _ (by omega) Q1.out.2.2.2.2.1.lt),Q1.out.2.2.2.2.2.1.same (far _ (by omega) Q1.out.2.2.2.2.2.1.lt),?_⟩
  have g:=Q1.out.2.2.2.2.2.2.1
  exact ⟨hf.os.trans g.os,hf.tape.trans g.tape,hf.output.trans g.output,Nat.le_trans g.size hf.size,fun i hi _=>(hf.block i (Nat.lt_of_lt_of_le hi g.size) (fun e=>by omega)).trans (g.block i hi (by simp))⟩
 clear hf Q1 HSP
 obtain ⟨go,rfl,hgo⟩:∃go,f0=some ⟨go,0,none⟩/\w.heap.size<=go/\go<w2.heap.size:=by
  rcases Q2.out.1.shape with ⟨h1,_⟩ | ⟨g,cap,h1,_⟩
  ·simp at h1
  ·simp at h1
   obtain ⟨rfl,_,rfl⟩:=h1
   exact ⟨g,rfl,OWB.out g (by simp [Value.ownBlock])⟩
 have HGO:Hid (w.heap.size<=go/\go<w2.heap.size):=hgo
 clear hgo OWB HT
 go_wp2_with fail
 go_loopw [12] (fun i wr=>∃k:Nat,k<=n+1/\i=.int .i64 k/\Hid ((∃M:Bs,M.length=n+1/\Own wr w.heap.size (.slice (some ⟨go,0,none⟩) (n+1) q0) M)/\am wr w4.heap.size (.slice do_ dn dc) A.ops/\am wr w6.heap.size (.slice wo wn wc) A.ops/\(∃u0 u1 u2 u3 u4 u5,Blk wr b6 27 #[u0,u1,u2,u3,u4,u5])/\Blk wr b8 27 #[.int .i64 A.kind,.int .i64 A.token,.int .i64 A.session,.int .i64 A.number,.int .i64 A.mark,.slice do_ dn dc]/\Blk wr b10 27 #[.int .i64 A.kind,.int .i64 A.token,.int .i64 A.session,.int .i64 A.number,.int .i64 A.mark,.slice wo wn wc]/\w.grownBy wr none)) (fun i _=>n+1-(intOf i).toNat)
 case atStart=>exact ⟨0,by omega,rfl,⟨_,by rw [List.length_append,HN.out];rfl,Q2.out.1⟩,Q2.out.2⟩
 case round =>
  obtain ⟨k,hk,rfl,HR⟩:=hrel
  clear Q2
  by_cases hlt:k<n+1
  ·have i0:(0:Int)<=(k:Int):=by omega
   have i3:(k:Int)<((n+1:Nat):Int):=by omega
   have i4:(k:Int)<(n:Int)+1:=by omega
   obtain ⟨M,hM,ho⟩:=HR.out.1
   obtain ⟨dx,d0⟩:∃x,wr.cell? ⟨go,k,none⟩=some x:=⟨_,(Names.gm ho k (by omega)).1⟩
   have d1:=(Names.gm ho k (by omega)).2
   have R2:Hid ((∃M:Bs,M.length=n+1/\Own (wr.setCell ⟨go,k,none⟩ (.int .u8 102)) w.heap.size (.slice (some ⟨go,0,none⟩) (n+1) q0) M)/\am (wr.setCell ⟨go,k,none⟩ (.int .u8 102)) w4.heap.size (.slice do_ dn dc) A.ops/\am (wr.setCell ⟨go,k,none⟩ (.int .u8 102)) w6.heap.size (.slice wo wn wc) A.ops/\(∃u0 u1 u2 u3 u4 u5,Blk (wr.setCell ⟨go,k,none⟩ (.int .u8 102)) b6 27 #[u0,u1,u2,u3,u4,u5])/\Blk (wr.setCell ⟨go,k,none⟩ (.int .u8 102)) b8 27 #[.int .i64 A.kind,.int .i64 A.token,.int .i64 A.session,.int .i64 A.number,.int .i64 A.mark,.slice do_ dn dc]/\Blk (wr.setCell ⟨go,k,none⟩ (.int .u8 102)) b10 27 #[.int .i64 A.kind,.int .i64 A.token,.int .i64 A.session,.int .i64 A.number,.int .i64 A.mark,.slice wo wn wc]/\w.grownBy (wr.setCell ⟨go,k,none⟩ (.int .u8 102)) none):=by
    obtain ⟨o1,o2,o3,o4,o5,o6⟩:=ORD.out
    have h2:=HGO.out.2
    have hg:=ab wr go k (.int .u8 102)
    obtain ⟨u0,u1,u2,u3,u4,u5,hu⟩:=HR.out.2.2.2.1
    refine ⟨⟨M.set k 102,by rw [List.length_set];exact hM,Names.jC ho k 102 102 rfl⟩,ea HR.out.2.1 (fun i h3 h4=>hg.block i h4 (by simp;omega)),ea HR.out.2.2.1 (fun i h3 h4=>hg.block i h4 (by simp;omega)),⟨u0,u1,u2,u3,u4,u5,hu.grown hg (by simp;omega)⟩,HR.out.2.2.2.2.1.grown hg (by simp;omega),HR.out.2.2.2.2.2.1.grown hg (by simp;omega),ag HR.out.2.2.2.2.2.2 hg (fun x hx=>by simp at hx;have:=HGO.out.1;omega)⟩
   clear hM ho
   go_wp2_with fail
   go_roundw
   case rel=>exact ⟨k+1,by omega,by go_num,R2⟩
   case measure=>simp [intOf];omega
  ·have i3:((k:Int)<((n+1:Nat):Int))=False:=eq_false (by omega)
   have i4:((k:Int)<(n:Int)+1)=False:=eq_false (by omega)
   have c8_0:=HR.out.2.2.2.2.1.cell 0
   have c8_1:=HR.out.2.2.2.2.1.cell 1
   have c8_2:=HR.out.2.2.2.2.1.cell 2
   have c8_3:=HR.out.2.2.2.2.1.cell 3
   have c8_4:=HR.out.2.2.2.2.1.cell 4
   have c8_5:=HR.out.2.2.2.2.1.cell 5
   simp at c8_0 c8_1 c8_2 c8_3 c8_4 c8_5
   have c10_0:=HR.out.2.2.2.2.2.1.cell 0
   have c10_1:=HR.out.2.2.2.2.2.1.cell 1
   have c10_2:=HR.out.2.2.2.2.2.1.cell 2
   have c10_3:=HR.out.2.2.2.2.2.1.cell 3
   have c10_4:=HR.out.2.2.2.2.2.1.cell 4
   have c10_5:=HR.out.2.2.2.2.2.1.cell 5
   simp at c10_0 c10_1 c10_2 c10_3 c10_4 c10_5
   go_wp2_with (go_at_call 16;refine (gK _ _ A _ HR.out.2.1.ops HR.out.2.2.1.ops).mono ?_)
   rintro e w11 ⟨rfl,hg⟩
   have R3:Hid ((∃u0 u1 u2 u3 u4 u5,Blk w11 b6 27 #[u0,u1,u2,u3,u4,u5])/\Blk w11 b10 27 #[.int .i64 A.kind,.int .i64 A.token,.int .i64 A.session,.int .i64 A.number,.int .i64 A.mark,.slice wo wn wc]/\w.grownBy w11 none):=by
    obtain ⟨u0,u1,u2,u3,u4,u5,hu⟩:=HR.out.2.2.2.1
    exact ⟨⟨u0,u1,u2,u3,u4,u5,hu.grown hg (by simp)⟩,HR.out.2.2.2.2.2.1.grown hg (by simp),aa HR.out.2.2.2.2.2.2 hg⟩
   clear hg c8_0 c8_1 c8_2 c8_3 c8_4 c8_5 c10_0 c10_1 c10_2 c10_3 c10_4 c10_5 HR
   obtain ⟨D,cd,hD⟩:∃A c,cA s=(A,c):=⟨_,_,rfl⟩
   have HD:Hid (cA s=(D,cd)):=hD
   clear hD
   go_upto_region 16 with fail
   rw [HX.out.1]
   go_wp2_with (go_at_call 22;refine ((m_ s _ (by rw [HX.out.2];omega) (HE.out.grown R3.out.2.2)).mono (fun _ _ h=>fh h HD.out)).mono ?_)
   rintro e w12 ⟨po,pn,pc,rfl,hx,hg⟩
   have R4:Hid ((∃u0 u1 u2 u3 u4 u5,Blk w12 b6 27 #[u0,u1,u2,u3,u4,u5])/\Blk w12 b10 27 #[.int .i64 A.kind,.int .i64 A.token,.int .i64 A.session,.int .i64 A.number,.int .i64 A.mark,.slice wo wn wc]/\w.grownBy w12 none/\am w12 w11.heap.size (.slice po pn pc) D.ops):=by
    obtain ⟨u0,u1,u2,u3,u4,u5,hu⟩:=R3.out.1
    exact ⟨⟨u0,u1,u2,u3,u4,u5,hu.grown hg (by simp)⟩,R3.out.2.1.grown hg (by simp),aa R3.out.2.2 hg,hx⟩
   clear hx hg R3
   obtain ⟨u0,u1,u2,u3,u4,u5,hu6⟩:=R4.out.1
   have c6_0:=hu6.cell 0
   have c6_1:=hu6.cell 1
   have c6_2:=hu6.cell 2
   have c6_3:=hu6.cell 3
   have c6_4:=hu6.cell 4
   have c6_5:=hu6.cell 5
   simp at c6_0 c6_1 c6_2 c6_3 c6_4 c6_5
   have z6_0:=hu6.free 0
   have z6_1:=hu6.free 1
   have z6_2:=hu6.free 2
   have z6_3:=hu6.free 3
   have z6_4:=hu6.free 4
   have z6_5:=hu6.free 5
   go_upto_region 17 with fail
   obtain ⟨w13,hw13,H13⟩:=set6 hu6 (.int .i64 D.kind) (.int .i64 D.token) (.int .i64 D.session) (.int .i64 D.number) (.int .i64 D.mark) (.slice po pn pc)
   rw [hw13]
   clear hw13 c6_0 c6_1 c6_2 c6_3 c6_4 c6_5 z6_0 z6_1 z6_2 z6_3 z6_4 z6_5
   have R5:Hid (Blk w13 b6 27 #[.int .i64 D.kind,.int .i64 D.token,.int .i64 D.session,.int .i64 D.number,.int .i64 D.mark,.slice po pn pc]/\Blk w13 b10 27 #[.int .i64 A.kind,.int .i64 A.token,.int .i64 A.session,.int .i64 A.number,.int .i64 A.mark,.slice wo wn wc]/\w.grownBy w13 none/\am w13 w11.heap.size (.slice po pn pc) D.ops):=by
    obtain ⟨o1,o2,o3,o4,o5,o6⟩:=ORD.out
    have hg:=H13.out.2
    exact ⟨H13.out.1,R4.out.2.1.grown hg (by simp;omega),ag R4.out.2.2.1 hg (fun x hx=>by simp at hx;omega),R4.out.2.2.2.set hu6 (by decide) (by decide) hg⟩
   clear R4 H13 hu6
   go_wp2_with (go_at_call 23;refine ((sU s _ (by rw [HX.out.2];omega) (HE.out.grown R5.out.2.2.1) (by have:=(HE.out.grown R5.out.2.2.1).env.sz;omega)).mono (fun _ _ h=>fh h HD.out)).mono ?_)
   rintro e w14 ⟨ro,rn,rc,rfl,hx,hg⟩
   have R6:Hid (Blk w14 b6 27 #[.int .i64 D.kind,.int .i64 D.token,.int .i64 D.session,.int .i64 D.number,.int .i64 D.mark,.slice po pn pc]/\Blk w14 b10 27 #[.int .i64 A.kind,.int .i64 A.token,.int .i64 A.session,.int .i64 A.number,.int .i64 A.mark,.slice wo wn wc]/\w.grownBy w14 none/\am w14 w11.heap.size (.slice po pn pc) D.ops/\am w14 w13.heap.size (.slice ro rn rc) D.ops):=⟨R5.out.1.grown hg (by simp),R5.out.2.1.grown hg (by simp),aa R5.out.2.2.1 hg,R5.out.2.2.2.grown hg,hx⟩
   clear hx hg R5
   have c10_0:=R6.out.2.1.cell 0
   have c10_1:=R6.out.2.1.cell 1
   have c10_2:=R6.out.2.1.cell 2
   have c10_3:=R6.out.2.1.cell 3
   have c10_4:=R6.out.2.1.cell 4
   have c10_5:=R6.out.2.1.cell 5
   simp at c10_0 c10_1 c10_2 c10_3 c10_4 c10_5
   have z10_0:=R6.out.2.1.free 0
   have z10_1:=R6.out.2.1.free 1
   have z10_2:=R6.out.2.1.free 2
   have z10_3:=R6.out.2.1.free 3
   have z10_4:=R6.out.2.1.free 4
   have z10_5:=R6.out.2.1.free 5
   go_upto_region 18 with fail
   obtain ⟨w15,hw15,H15⟩:=set6 R6.out.2.1 (.int .i64 D.kind) (.int .i64 D.token) (.int .i64 D.session) (.int .i64 D.number) (.int .i64 D.mark) (.slice ro rn rc)
   rw [hw15]
   clear hw15 c10_0 c10_1 c10_2 c10_3 c10_4 c10_5 z10_0 z10_1 z10_2 z10_3 z10_4 z10_5
   have R7:Hid (Blk w15 b6 27 #[.int .i64 D.kind,.int .i64 D.token,.int .i64 D.session,.int .i64 D.number,.int .i64 D.mark,.slice po pn pc]/\Blk w15 b10 27 #[.int .i64 D.kind,.int .i64 D.token,.int .i64 D.session,.int .i64 D.number,.int .i64 D.mark,.slice ro rn rc]/\w.grownBy w15 none/\am w15 w11.heap.size (.slice po pn pc) D.ops/\am w15 w13.heap.size (.slice ro rn rc) D.ops):=by
    obtain ⟨o1,o2,o3,o4,o5,o6⟩:=ORD.out
    have hg:=H15.out.2
    exact ⟨R6.out.1.grown hg (by simp;omega),H15.out.1,ag R6.out.2.2.1 hg (fun x hx=>by simp at hx;omega),R6.out.2.2.2.1.set R6.out.2.1 (by decide) (by decide) hg,R6.out.2.2.2.2.set R6.out.2.1 (by decide) (by decide) hg⟩
   clear R6 H15
   have c6_0:=R7.out.1.cell 0
   have c6_1:=R7.out.1.cell 1
   have c6_2:=R7.out.1.cell 2
   have c6_3:=R7.out.1.cell 3
   have c6_4:=R7.out.1.cell 4
   have c6_5:=R7.out.1.cell 5
   simp at c6_0 c6_1 c6_2 c6_3 c6_4 c6_5
   have c10_0:=R7.out.2.1.cell 0
   have c10_1:=R7.out.2.1.cell 1
   have c10_2:=R7.out.2.1.cell 2
   have c10_3:=R7.out.2.1.cell 3
   have c10_4:=R7.out.2.1.cell 4
   have c10_5:=R7.out.2.1.cell 5
   simp at c10_0 c10_1 c10_2 c10_3 c10_4 c10_5
   go_wp2_with (go_at_call 16;refine (gK _ _ D _ R7.out.2.2.2.1.ops R7.out.2.2.2.2.ops).mono ?_)
   rintro e w16 ⟨rfl,hg⟩
   have R8:Hid (w.grownBy w16 none):=aa R7.out.2.2.1 hg
   clear hg c6_0 c6_1 c6_2 c6_3 c6_4 c6_5 c10_0 c10_1 c10_2 c10_3 c10_4 c10_5 R7
   go_wp2_with (first | (go_at_call 12;refine (qN _ _).mono ?_;rintro e wnn ⟨rfl,hw⟩;rw [hw];clear hw) | (go_at_call 7;refine (jZ _ (HE.out.grown R8.out)).mono ?_;rintro e w17 ⟨rfl,hg⟩;have R9:Hid (w16.grownBy w17 none):=hg;clear hg))
   go_ret
   exact ⟨rfl,aa R8.out R9.out⟩
end Go.Proofs.YtgjcpjckaopeeaaGreatDoor
