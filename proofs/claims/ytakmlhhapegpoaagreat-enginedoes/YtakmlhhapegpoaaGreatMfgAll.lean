import Derived.Test.YtakmlhhapegpoaaGreatMe
import Derived.Test.YtakmlhhapegpoaaGreatShelf
set_option maxHeartbeats 4000000
set_option maxRecDepth 100000
namespace Go.Proofs.YtakmlhhapegpoaaGreat
open Go.RowKit Disk Table
open Names (Str cmpL keyB valueB tabB)
theorem below_grown {w w':World}(h:Below w.heap.size w w'):w.grownBy w' none:=⟨h.os,h.tape,h.output,h.size,fun k hk _=>h.block k hk⟩
theorem clone76 (n:Bs)(hn:n.length<=1000000)(w:World):Calls Tryz.prog 76 #[Str n] w fun e w'=>e=.returned (Str n)/\w.grownBy w' none:=by
 have hs:(⟨n.toArray⟩:ByteArray).size<=281474976710656:=by rw [Names.str_size];omega
 unfold Str
 go_enter Tryz.func76,Tryz.ntmps76
 go_wp2_with (go_at_call 103;refine (Tryz.stringslite_Clone _ w hs).mono ?_;rintro e w1 ⟨rfl,hb⟩;have H:Hid (w.grownBy w1 none):=below_grown hb;clear hb)
 go_ret
 exact ⟨rfl,H.out⟩
theorem stand48 {X:Nat->Prop}(b m:Nat)(q:Int × Int)(D:DB)(hD:RiseD D)(n:Bs)(hn:n.length<=1000000)(tv:Value)(is:Bool)(r:List PRow)(w:World)(hb:EngB w b q m)(h:EM X w m D)(ht:Tl w tv is r)(hz:r.length≠0->∃p,tv=ptr p/\Tbz X w p r) :
  Calls Tryz.prog 48 #[.pointer (some ⟨b,0,none⟩),Str n,tv] w fun e w'=>e=.returned (.tuple #[])/\EM X w' m (standD D n r)/\w.grownBy w' (some m):=by
 have HT:Hid (Tl w tv is r):=ht
 have HB:Hid (EngB w b q m):=hb
 have HC:Hid (∀y,w.grownBy y none->y.cell? ⟨b,2,none⟩=some (.map (some m))):=fun y hy=>by
  have:=Blk.grown hb hy (by simp)
  exact this.cell 2
 obtain ⟨N,hN⟩:∃N,r.length=N:=⟨_,rfl⟩
 have HL:Hid (Calls Tryz.prog 50 #[tv] w fun e w'=>e=.returned (.int .i64 (N:Int))/\w'=w):=by rw [<-hN];exact len23g tv is r w ht
 obtain ⟨E,h1,h2,h3⟩:=h
 have H:Hid (RiseD D/\MapAt w m E/\(∀n,n ∈ E.map (·.1)<->n ∈ namesD D)/\(∀x ∈ E,Tbz X w x.2 (rowsOf D x.1))/\r.length=N/\n.length<=1000000):=⟨hD,h1,h2,h3,hN,hn⟩
 by_cases hN0:N=0
 ·subst hN0
  have hr:r=[]:=List.eq_nil_of_length_eq_zero hN
  have c2:=HC.out w (grown_refl _ _)
  obtain ⟨w1,hd,hm1,hg1,_⟩:=run_del h1 n 0
  have H1:Hid (MapAt w1 m (delE E n)/\w.grownBy w1 (some m)):=⟨hm1,hg1⟩
  unfold Str at hd ⊢
  clear h1 h2 h3 hm1 hg1 hN hb ht hD hz
  go_enter Tryz.func48,Tryz.ntmps48
  go_wp2_with (go_at_call 50;refine HL.out.mono ?_;rintro e w1 ⟨rfl,hw⟩;rw [hw];clear hw)
  refine bodyPost_ret (v:=.tuple #[]) (by simp [results,Tryz.results48]) rfl ?_
  refine ⟨rfl,?_,H1.out.2⟩
  rw [hr]
  exact em_del H.out.1 H.out.2.1 H.out.2.2.1 H.out.2.2.2.1 n H1.out.1 H1.out.2
 ·obtain ⟨p,rfl,hp⟩:=hz (by rw [hN];exact hN0)
  have HP:Hid (Tbz X w p r/\N≠0):=⟨hp,hN0⟩
  have n0:((N:Int)==0)=false:=by simp;omega
  have n1:(N==0)=false:=by simp;omega
  have n2:(N=0)=False:=by simp;omega
  clear h1 h2 h3 hN hb ht hD hz hp hN0
  go_enter Tryz.func48,Tryz.ntmps48
  go_wp2_with (go_at_call 50;refine HL.out.mono ?_;rintro e w1 ⟨rfl,hw⟩;rw [hw];clear hw)
  refine wp_region_noPanic ?_
  refine wp_region_hold 7 (fun y=>w.grownBy y none) (by kernel_rfl) ?_
  have G0:Hid (w.grownBy w.drew none):=grown_drew _ _
  generalize w.drew=wd at G0 ⊢
  have J:Idx [0,1,2,3,4,6]:=trivial
  iterate 6 (refine tK J (G0.out) rfl rfl (fun wk hk=>by have m0:=HC.out wk hk;go_simp;try rfl) ?_;replace J:=J.tl;try simp only [pN])
  clear J
  refine wpHold_one (i:=5) rfl (by kernel_rfl) (by rfl) (fun K hK=>?_)
  go_wp2_with (go_at_call 76;refine (clone76 n H.out.2.2.2.2.2 wd).mono ?_)
  rintro e w2 ⟨rfl,g2⟩
  have G2:Hid (w.grownBy w2 none):=grown_trans G0.out g2
  clear g2
  go_wp2_with fail
  refine hK.out _ _ (fun _=>G2.out) ?_
  clear hK K
  try simp only [pN]
  refine wpHold_one (i:=7) rfl (by kernel_rfl) (by rfl) (fun K hK=>?_)
  obtain ⟨w3,hu,hm3,hg3,_⟩:=run_put (H.out.2.1.grown G2.out (by simp)) n p
  have H3:Hid (MapAt w3 m (setE E n p)/\w2.grownBy w3 (some m)):=⟨hm3,hg3⟩
  clear hm3 hg3
  go_wp2_with fail
  refine hK.out _ _ (fun h=>absurd rfl h) ?_
  clear hK K
  try simp only [pN]
  refine wpHold_done (by kernel_rfl) ?_
  refine NoPanic.normal (bodyPost_end (v:=.tuple #[]) (by simp [results,Tryz.results48]) rfl ?_)
  refine ⟨rfl,em_set H.out.1 (H.out.2.1.grown G2.out (by simp)) H.out.2.2.1 (fun x hx=>(H.out.2.2.2.1 x hx).grown G2.out) n r (by rw [H.out.2.2.2.2.1];exact HP.out.2) (HP.out.1.grown G2.out) H3.out.1 H3.out.2,grown_trans (grown_weak G2.out _) H3.out.2⟩
abbrev NRow:=Bs × PRow
def ncells:List (Bs × Value × Value)->List Value
 | []=>[]
 | k :: ks=>Str k.1 :: k.2.1 :: k.2.2 :: ncells ks
theorem ncells_len:∀ks,(ncells ks).length=ks.length*3
 | []=>rfl
 | k :: ks=>by simp [ncells,ncells_len ks];omega
theorem ncells_at:∀(ks:List (Bs × Value × Value)) (j:Nat) (h:j<ks.length),(ncells ks)[j*3]? = some (Str ks[j].1)/\(ncells ks)[j*3+1]? = some ks[j].2.1/\(ncells ks)[j*3+2]? = some ks[j].2.2
 | k :: ks,0,_=>by simp [ncells]
 | k :: ks,j+1,h=>by
  have:=ncells_at ks j (by simpa using h)
  have e:(j+1)*3=j*3+3:=by omega
  rw [e]
  simpa [ncells] using this
theorem ncells_drop:∀(ks:List (Bs × Value × Value)) (k:Nat),ncells (ks.drop k)=(ncells ks).drop (k*3)
 | ks,0=>by simp
 | [],k+1=>by simp [ncells]
 | x :: ks,k+1=>by
  have e:(k+1)*3=k*3+3:=by omega
  rw [e]
  simpa [ncells] using ncells_drop ks k
def NSeg (w:World)(ks:List (Bs × Value × Value))(l:List NRow):Prop:=ks.length=l.length/\∀j (h:j<ks.length) (h':j<l.length),ks[j].1=l[j].1/\Seg w ks[j].2.1 l[j].2.1/\Seg w ks[j].2.2 l[j].2.2
theorem NSeg.grown {w w':World}{ks:List (Bs × Value × Value)}{l:List NRow}(h:NSeg w ks l)(hg:w.grownBy w' none):NSeg w' ks l:=⟨h.1,fun j a b=>⟨(h.2 j a b).1,(h.2 j a b).2.1.grown hg,(h.2 j a b).2.2.grown hg⟩⟩
def Nms (w:World)(v:Value)(l:List NRow):Prop:=∃ks,NSeg w ks l/\Vec w 3 v l.length (ncells ks)
theorem Nms.grown {w w':World}{v:Value}{l:List NRow}(h:Nms w v l)(hg:w.grownBy w' none):Nms w' v l:=by
 obtain ⟨ks,h1,h2⟩:=h
 exact ⟨ks,h1.grown hg,h2.grown hg⟩
theorem nms_nil (w:World):Nms w (.slice none 0 0) []:=⟨[],⟨rfl,fun j h=>absurd h (by simp)⟩,vec_nil _ _⟩
theorem nms_open {w:World}{v:Value}{l:List NRow}(h:Nms w v l):∃ao n cap,v=.slice ao n cap/\l.length=n/\n<=cap/\cap<=9223372036854775807/\Hid (Nms w (.slice ao n cap) l):=by
 have h':=h
 obtain ⟨ks,_,ao,cap,rfl,h2,h3,_⟩:=h'
 unfold maxLen at h3
 exact ⟨ao,_,cap,rfl,rfl,h2,by omega,h⟩
theorem nms_at {w:World}{ao:Option Addr}{n cap:Nat}{l:List NRow}(h:Nms w (.slice ao n cap) l)(j:Nat)(hj:j<l.length):∃b off x y,ao=some ⟨b,off,none⟩/\w.cell? ⟨b,off+j*3,none⟩=some (Str l[j].1)/\w.cell? ⟨b,off+j*3+1,none⟩=some x/\w.cell? ⟨b,off+j*3+2,none⟩=some y/\Seg w x l[j].2.1/\Seg w y l[j].2.2:=by
 obtain ⟨ks,h1,h2⟩:=h
 have e1:=h1.1
 have hk:j<ks.length:=by omega
 obtain ⟨g1,g2,g3⟩:=ncells_at ks j hk
 obtain ⟨ao',cap',e,_,_,_,_,h6⟩:=h2
 simp at e
 obtain ⟨rfl,rfl,rfl⟩:=e
 obtain ⟨b,off,e,hc⟩:=h6 _ _ g1
 obtain ⟨b',off',e',hc'⟩:=h6 _ _ g2
 obtain ⟨b2,off2,e2,hc2⟩:=h6 _ _ g3
 rw [e] at e' e2
 simp at e' e2
 obtain ⟨rfl,rfl⟩:=e'
 obtain ⟨rfl,rfl⟩:=e2
 obtain ⟨f1,f2,f3⟩:=h1.2 j hk hj
 exact ⟨b,off,_,_,e,by rw [<-f1];exact hc,by rw [Nat.add_assoc];exact hc',by rw [Nat.add_assoc];exact hc2,f2,f3⟩
theorem Tryz.ut24:Tryz.prog.underlying 24=some (.slice (Tryz.prog.elem 24)):=by kernel_rfl
theorem Tryz.size24 (w:World):(sizeOf (Tryz.prog.elem 24)).run Tryz.prog w=.ok 3 w:=by kernel_rfl
theorem nms_rest {w:World}{ao:Option Addr}{n cap:Nat}{l:List NRow}(h:Nms w (.slice ao n cap) l)(hn:l.length=n)(lo:Nat)(h1:lo<=n):Nms w (sliced ao lo n cap 3) (l.drop lo):=by
 obtain ⟨ks,ha,hv⟩:=h
 have hv':=hv
 obtain ⟨ao1,c1,e1,_⟩:=hv'
 simp at e1
 obtain ⟨rfl,rfl,rfl⟩:=e1
 have:=vec_piece hv lo l.length h1 (Nat.le_refl _)
 refine ⟨ks.drop lo,⟨by simp [ha.1],fun j a b=>?_⟩,?_⟩
 ·simp only [List.getElem_drop]
  exact ha.2 _ _ _
 ·rw [ncells_drop,List.length_drop]
  rw [List.take_of_length_le (by rw [List.length_drop,ncells_len,ha.1,Nat.sub_mul];omega)] at this
  exact this
def front (l:List NRow):List NRow:=match l with
 | []=>[]
 | r :: _=>l.takeWhile (fun x=>decide (x.1=r.1))
def frontR (l:List NRow):List PRow:=(front l).map (·.2)
def FRws (w0 w:World)(B:Nat)(v:Value)(l:List PRow):Prop:=∃ks,w.ownsRow B 86 2 v l.length (rcells ks)/\RSeg w0 ks l
theorem FRws.grown {w0 w w':World}{B:Nat}{v:Value}{l:List PRow}(h:FRws w0 w B v l)(hg:w.grownBy w' none):FRws w0 w' B v l:=by
 obtain ⟨ks,h1,h2⟩:=h
 exact ⟨ks,World.ownsRow.kept h1 hg (by cases v.ownBlock <;> simp),h2⟩
theorem FRws.rws {w0 w:World}{B:Nat}{v:Value}{l:List PRow}(h:FRws w0 w B v l)(hg:w0.grownBy w none):Rws w v l:=by
 obtain ⟨ks,h1,h2⟩:=h
 exact ⟨ks,h2.grown hg,vec_of_owns h1⟩
theorem FRws.nil (w0 w:World)(B:Nat):FRws w0 w B (.slice none 0 0) []:=⟨[],World.ownsRow_nil _ _ _ _,rfl,fun j h=>absurd h (by simp)⟩
theorem takeWhile_all {α:Type}(p:α->Bool):∀(l:List α),(∀x ∈ l,p x=true)->l.takeWhile p=l
 | [],_=>rfl
 | x :: l,h=>by
  rw [List.takeWhile_cons,h x (by simp)]
  simp only [if_true]
  rw [takeWhile_all p l (fun y hy=>h y (by simp [hy]))]
theorem seg_one {w:World}{v:Value}{L:Bs}(h:Seg w v L):v.oneCell'=true:=by
 obtain ⟨ao,cap,rfl,_⟩:=h
 rfl
theorem front_all {l:List NRow}(h:∀j (hj:j<l.length),l[j].1=(l[0]'(by omega)).1):frontR l=l.map (·.2):=by
 unfold frontR front
 cases l with
 | nil=>rfl
 | cons r l =>
  simp only
  rw [takeWhile_all]
  intro x hx
  obtain ⟨j,hj,rfl⟩:=List.getElem_of_mem hx
  have:=h j hj
  simpa using this
theorem takeWhile_stop {α:Type}(p:α->Bool):∀(l:List α) (k:Nat) (hk:k<l.length),(∀j (hj:j<l.length),j<k->p l[j]=true)->p l[k]=false->l.takeWhile p=l.take k
 | x :: l,0,_,_,h2=>by
  simp only [List.getElem_cons_zero] at h2
  simp [h2]
 | x :: l,k+1,hk,h1,h2=>by
  have h0:=h1 0 (by simp) (by omega)
  simp only [List.getElem_cons_zero] at h0
  simp only [List.getElem_cons_succ] at h2
  simp only [List.takeWhile_cons,h0,List.take_succ_cons,if_true]
  rw [takeWhile_stop p l k (by simpa using hk) (fun j hj hjk=>by have:=h1 (j+1) (by simpa using hj) (by omega);simpa using this) h2]
theorem front_stop {l:List NRow}{k:Nat}(h:∀j (hj:j<l.length),j<k->l[j].1=(l[0]'(by omega)).1)(hk:k<l.length)(hne:l[k].1≠(l[0]'(by omega)).1):frontR l=(l.take k).map (·.2):=by
 unfold frontR front
 cases l with
 | nil=>simp at hk
 | cons r l =>
  simp only
  rw [takeWhile_stop _ (r :: l) k hk (fun j hj hjk=>by have:=h j hj hjk;simpa using this) (by simpa using hne)]
theorem appF_wp {o:Oper}{a:Act}{K:Act->World->Prop}{Q:Exit->Act->World->Prop}(w:World)(s x:Operand)(ho:o.op=.call { callee:=.builtin .append,args:=#[s,x],argTypes:=#[70,70] })
  (B:Nat) (v:Value) (l:List PRow) (u:Value) (kx ky:Value) (r:PRow) (hs:a.eval s=v) (hx:a.eval x=u) (w0:World) (hv:FRws w0 w B v l) (hu:Vec w 2 u 1 [kx,ky]) (h1:Seg w0 kx r.1) (h2:Seg w0 ky r.2) (hb:l.length<=1000000) (hB:B<=w.heap.size)
  (h:∀ao cap w',FRws w0 w' B (.slice ao (l.length+1) cap) (l ++ [r])->(∃q,w.grownBy w' q/\∀g,q=some g->B<=g)->K (a.put o.dst (.slice ao (l.length+1) cap)) w'):o.wp Tryz.prog a w K Q:=by
 obtain ⟨ks,h3,h4⟩:=hv
 have h5:=h4.snoc h1 h2
 obtain ⟨i0,hi,hz0,hz1,hz2⟩:=info_parts Tryz.info86
 obtain ⟨ad,c,eu⟩:∃ad c,u=.slice (some ad) 1 c:=by
  obtain ⟨ao,c,e,k1,_,k3,_⟩:=hu
  cases ao with
  | none=>have:=k3 rfl;omega
  | some ad=>exact ⟨ad,c,e⟩
 subst eu
 refine wp_append_lies w s x 70 ho B 86 i0 _ 2 48 ut22' hi hz0 hz1 hz2 rfl (by decide) v l.length (rcells ks) hs h3 ad 1 c [kx,ky] hx rfl hu.news ?_ (by decide) (by unfold maxLen;omega) (by omega) hB w.heap.size rfl ?_
 ·intro y hy
  simp at hy
  rcases hy with rfl | rfl
  ·exact seg_one h1
  ·exact seg_one h2
 ·intro g cap w' r1 r2 r3 _
  refine h _ cap w' ⟨ks ++ [(kx,ky)],?_,?_⟩ ⟨_,r2,fun q hq=>(World.ownsRow.lt h3 q hq).1⟩
  ·rw [rcells_append,List.length_append]
   exact r1
  ·exact h5
theorem appF_at {ops:Array Oper}{rest:List Oper}{o:Oper}{a:Act}{Q:Exit->Act->World->Prop}(w:World)(hw:Region.wanted o (yielded ops a.tmps)=true)(s x:Operand)(ho:o.op=.call { callee:=.builtin .append,args:=#[s,x],argTypes:=#[70,70] })
  (B:Nat) (v:Value) (l:List PRow) (u:Value) (kx ky:Value) (r:PRow) (hs:a.eval s=v) (hx:a.eval x=u) (w0:World) (hv:FRws w0 w B v l) (hu:Vec w 2 u 1 [kx,ky]) (h1:Seg w0 kx r.1) (h2:Seg w0 ky r.2) (hb:l.length<=1000000) (hB:B<=w.heap.size)
  (h:∀ao cap w',FRws w0 w' B (.slice ao (l.length+1) cap) (l ++ [r])->(∃q,w.grownBy w' q/\∀g,q=some g->B<=g)->wpList Tryz.prog ops Q rest (a.put o.dst (.slice ao (l.length+1) cap)) w'):wpList Tryz.prog ops Q (o :: rest) a w :=
 BigFrame.wpList_want hw fun _ hK=>appF_wp w s x ho B v l u kx ky r hs hx w0 hv hu h1 h2 hb hB fun ao cap w' h1 h2=>hK _ _ (h ao cap w' h1 h2)
theorem firstTable45 (v:Value)(l:List NRow)(hz:l.length<=1000000)(w:World)(hv:Nms w v l):Calls Tryz.prog 45 #[v] w fun e w'=>∃u,e=.returned u/\FRws w w' w.heap.size u (frontR l)/\w.grownBy w' none:=by
 obtain ⟨ao,n,cap,rfl,hn,h1,h2,HV⟩:=nms_open hv
 have HN:Hid (l.length=n):=hn
 have hn6:n<=1000000:=by omega
 clear hv hn hz
 go_enter Tryz.func45,Tryz.ntmps45
 go_wp2_with fail
 go_loopw [3,8] (fun u i wr=>∃(k:Nat),k<=n/\i=.int .i64 (k:Int)/\Hid ((∀j (h:j<l.length),j<k->l[j].1=(l[0]'(by omega)).1)/\FRws w wr w.heap.size u ((l.take k).map (·.2))/\w.grownBy wr none)) (fun _ i _=>n-(intOf i).toNat)
 case atStart=>exact ⟨0,Nat.zero_le _,rfl,fun j _ h=>absurd h (by omega),by simpa using FRws.nil w w w.heap.size,grown_refl _ _⟩
 case round =>
  obtain ⟨k,hk,rfl,HR⟩:=hrel
  rcases Nat.lt_or_ge k n with hlt | hge
  ·have ka:k<l.length:=by rw [HN.out];exact hlt
   obtain ⟨b1,o1,x0,y0,rfl,t0,_,_,_,_⟩:=nms_at HV.out 0 (by omega)
   obtain ⟨b2,o2,x1,y1,e2,t1,c1,c2,s1,s2⟩:=nms_at HV.out k ka
   simp at e2
   obtain ⟨rfl,rfl⟩:=e2
   have i0:(0:Int)<=(k:Int):=by omega
   have i1:(k:Int)<(n:Int):=by omega
   have i2:(0:Int)<(n:Int):=by omega
   obtain ⟨ax,nx,cx,rfl,hx,_,_⟩:=Names.seg_open s1
   obtain ⟨ay,ny,cy,rfl,hy,_,_⟩:=Names.seg_open s2
   obtain ⟨T0,hT0⟩:∃t,(l[0]'(by omega)).1=t:=⟨_,rfl⟩
   obtain ⟨T1,hT1⟩:∃t,l[k].1=t:=⟨_,rfl⟩
   have HX:Hid (Seg w (.slice ax nx cx) l[k].2.1/\Seg w (.slice ay ny cy) l[k].2.2/\(l[0]'(by omega)).1=T0/\l[k].1=T1):=⟨s1,s2,hT0,hT1⟩
   rw [hT0] at t0
   rw [hT1] at t1
   unfold Str at t0 t1
   replace t0:=HR.out.2.2.cell t0 (by simp)
   replace t1:=HR.out.2.2.cell t1 (by simp)
   replace c1:=HR.out.2.2.cell c1 (by simp)
   replace c2:=HR.out.2.2.cell c2 (by simp)
   clear s1 s2 hx hy hT0 hT1
   go_wp2_with fail
   obtain ⟨w1,hw1,H1⟩:=al wr #[.string ⟨T1.toArray⟩,.slice ax nx cx,.slice ay ny cy] 61
   rw [hw1]
   clear hw1
   have k0:=H1.out.1.cell 0
   have k1:=H1.out.1.cell 1
   have k2:=H1.out.1.cell 2
   have t0':w1.cell? ⟨b1,o1,none⟩=some (.string ⟨T0.toArray⟩):=H1.out.2.1.cell (by simpa using t0) (by simp)
   have G1:Hid (w.grownBy w1 none):=grown_trans HR.out.2.2 H1.out.2.1
   clear t0 t1 c1 c2
   simp at k0 k1 k2
   by_cases hT:T1=T0
   ·subst hT
    go_quiet (fail)
    have k1':(w1.drewN nq).cell? ⟨wr.heap.size,1,none⟩=some (.slice ax nx cx):=k1
    have k2':(w1.drewN nq).cell? ⟨wr.heap.size,2,none⟩=some (.slice ay ny cy):=k2
    have G2:Hid (wr.grownBy (w1.drewN nq) none):=grown_trans H1.out.2.1 (grown_drewN _ _ _)
    generalize w1.drewN nq=w2 at k1' k2' G2 ⊢
    obtain ⟨w3,hw3,H3⟩:=al w2 #[.slice ax nx cx,.slice ay ny cy] 86
    obtain ⟨M,hM⟩:∃M,(l.take k).map (·.2)=M:=⟨_,rfl⟩
    have HM:Hid ((l.take k).map (·.2)=M/\M.length=k/\(l.take (k+1)).map (·.2)=M ++ [l[k].2]):=⟨hM,by rw [<-hM];simp;omega,by rw [<-hM,List.take_add_one,List.getElem?_eq_getElem ka,List.map_append];rfl⟩
    have G3:Hid (wr.grownBy w3 none):=grown_trans G2.out H3.out.2.1
    have HF:Hid (FRws w w3 w.heap.size u3 M):=by rw [<-hM];exact HR.out.2.1.grown G3.out
    clear hM
    go_wp2_with (at_builtin;refine appF_at w3 rfl _ _ rfl w.heap.size u3 M _ (.slice ax nx cx) (.slice ay ny cy) l[k].2 rfl rfl w HF.out (vec_two w2 _ _ w3 H3.out.1) HX.out.1 HX.out.2.1 (by have:=HM.out.2.1;omega) (Nat.le_trans HR.out.2.2.size G3.out.size) ?_)
    intro a4 c4 w4 ht4 q4 hq hq2
    have H4:Hid (FRws w w4 w.heap.size (.slice a4 (k+1) c4) ((l.take (k+1)).map (·.2))/\w.grownBy w4 none):=by
     refine ⟨?_,grown_new (grown_trans HR.out.2.2 G3.out) hq hq2⟩
     rw [HM.out.2.2]
     have:=HM.out.2.1
     subst this
     exact ht4
    try rw [HM.out.2.1]
    clear ht4 hq hq2
    go_wp2_with fail
    go_roundw
    case rel =>
     refine ⟨k+1,by omega,by go_num,fun j hj hjk=>?_,H4.out.1,H4.out.2⟩
     rcases Nat.lt_or_ge j k with h | h
     ·exact HR.out.1 j hj h
     ·have:j=k:=by omega
      subst this
      rw [HX.out.2.2.1,HX.out.2.2.2]
    case measure=>simp [intOf];omega
   ·have hne:((⟨T1.toArray⟩:ByteArray).toList==(⟨T0.toArray⟩:ByteArray).toList)=false:=by
     rw [beq_eq_false_iff_ne]
     simpa using hT
    have hne2:(T1==T0)=false:=by simpa using hT
    have HT:Hid (T1≠T0):=hT
    clear hT
    go_quiet (fail)
    have G2:Hid (wr.grownBy (w1.drewN nq) none):=grown_trans H1.out.2.1 (grown_drewN _ _ _)
    generalize w1.drewN nq=w2 at G2 ⊢
    go_wp2_with fail
    go_ret
    refine ⟨_,rfl,?_,grown_trans HR.out.2.2 G2.out⟩
    rw [front_stop HR.out.1 ka (by rw [HX.out.2.2.1,HX.out.2.2.2];exact HT.out)]
    exact HR.out.2.1.grown G2.out
  ·have hkn:k=n:=by omega
   subst hkn
   go_wp2_with fail
   go_ret
   refine ⟨_,rfl,?_,HR.out.2.2⟩
   have e:(l.take k).map (·.2)=frontR l:=by
    rw [List.take_of_length_le (by have:=HN.out;omega)]
    exact (front_all (fun j hj=>HR.out.1 j hj (by have:=HN.out;omega))).symm
   rw [<-e]
   exact HR.out.2.1
end Go.Proofs.YtakmlhhapegpoaaGreat
