import Derived.Test.YtakmlhhapegpoaaGreatNamesAll
import Derived.ArgAppend
import Derived.Deep.DeepCutAuto
import Derived.RangeFuncNested
import Derived.RangeFuncCalls
import Derived.RangeFuncLeaves
import Derived.OrdersIn
import Derived.Scope
import Derived.Shelf.Abstract
set_option maxHeartbeats 4000000
set_option maxRecDepth 100000
namespace Go.Proofs.YtakmlhhapegpoaaGreat.Table
open Go.RowKit Disk
def Vec (w:World)(size:Nat)(v:Value)(n:Nat)(xs:List Value):Prop :=
 ∃ao cap,v=.slice ao n cap/\n<=cap/\cap<=maxLen/\(ao=none->cap=0)/\xs.length=n*size/\∀j u,xs[j]? = some u->∃b off,ao=some ⟨b,off,none⟩/\w.cell? ⟨b,off+j,none⟩=some u
theorem Vec.grown {w w':World}{size n:Nat}{v:Value}{xs:List Value}(h:Vec w size v n xs)(hg:w.grownBy w' none):Vec w' size v n xs:=by
 obtain ⟨ao,cap,h1,h2,h3,h4,h5,h6⟩:=h
 refine ⟨ao,cap,h1,h2,h3,h4,h5,fun j u hj=>?_⟩
 obtain ⟨b,off,e,hc⟩:=h6 j u hj
 exact ⟨b,off,e,hg.cell hc (by simp)⟩
theorem Vec.cells {w w':World}{size n:Nat}{v:Value}{xs:List Value}(h:Vec w size v n xs)(hc:∀b j u,u ∈ xs->w.cell? ⟨b,j,none⟩=some u->w'.cell? ⟨b,j,none⟩=some u):Vec w' size v n xs:=by
 obtain ⟨ao,cap,h1,h2,h3,h4,h5,h6⟩:=h
 refine ⟨ao,cap,h1,h2,h3,h4,h5,fun j u hj=>?_⟩
 obtain ⟨b,off,e,hcc⟩:=h6 j u hj
 exact ⟨b,off,e,hc _ _ _ (List.mem_of_getElem? hj) hcc⟩
theorem Vec.shape {w:World}{size n:Nat}{v:Value}{xs:List Value}(h:Vec w size v n xs):∃ao cap,v=.slice ao n cap/\n<=cap/\cap<=9223372036854775807:=by
 obtain ⟨ao,cap,h1,h2,h3,_⟩:=h
 unfold maxLen at h3
 exact ⟨ao,cap,h1,h2,by omega⟩
theorem vec_nil (w:World)(size:Nat):Vec w size (.slice none 0 0) 0 []:=⟨none,0,rfl,Nat.le_refl _,Nat.zero_le _,fun _=>rfl,by simp,fun j u h=>by simp at h⟩
theorem Vec.at {w:World}{size n cap:Nat}{ao:Option Addr}{xs:List Value}(h:Vec w size (.slice ao n cap) n xs)(j:Nat)(u:Value)(hj:xs[j]? = some u):∃b off,ao=some ⟨b,off,none⟩/\w.cell? ⟨b,off+j,none⟩=some u:=by
 obtain ⟨ao',cap',h1,_,_,_,_,h6⟩:=h
 simp at h1
 obtain ⟨rfl,rfl⟩:=h1
 exact h6 j u hj
theorem Vec.take {w:World}{size n cap:Nat}{ao:Option Addr}{xs:List Value}(h:Vec w size (.slice ao n cap) n xs)(k c:Nat)(hk:k<=n)(hkc:k<=c)(hc:c<=cap):Vec w size (.slice ao k c) k (xs.take (k*size)):=by
 obtain ⟨ao',cap',h1,h2,h3,h4,h5,h6⟩:=h
 simp at h1
 obtain ⟨rfl,rfl⟩:=h1
 refine ⟨ao,c,rfl,hkc,by omega,fun e=>by have:=h4 e;omega,?_,fun j u hj=>?_⟩
 ·rw [List.length_take,h5]
  exact Nat.min_eq_left (Nat.mul_le_mul_right _ hk)
 ·rw [List.getElem?_take] at hj
  split at hj
  ·exact h6 j u hj
  ·simp at hj
theorem Vec.drop {w:World}{size n cap:Nat}{ao:Option Addr}{xs:List Value}(h:Vec w size (.slice ao n cap) n xs)(k:Nat)(_hk:k<=n)(ao':Option Addr)(c:Nat)(ha:ao'=none->c=0)(hao:∀b off,ao=some ⟨b,off,none⟩->k<n->ao'=some ⟨b,off+k*size,none⟩)(hc:n-k<=c)(hc':c<=maxLen):Vec w size (.slice ao' (n-k) c) (n-k) (xs.drop (k*size)):=by
 obtain ⟨ao1,cap',h1,h2,h3,h4,h5,h6⟩:=h
 simp at h1
 obtain ⟨rfl,rfl⟩:=h1
 refine ⟨ao',c,rfl,hc,hc',ha,?_,fun j u hj=>?_⟩
 ·rw [List.length_drop,h5,Nat.sub_mul]
 ·rw [List.getElem?_drop] at hj
  obtain ⟨b,off,e,hcc⟩:=h6 _ u hj
  have hlt:=(List.getElem?_eq_some_iff.1 hj).1
  have hkn:k<n:=by
   rcases Nat.lt_or_ge k n with h | h
   ·exact h
   ·exfalso
    have:=Nat.mul_le_mul_right size h
    omega
  exact ⟨b,off+k*size,hao b off e hkn,by rw [Nat.add_assoc];exact hcc⟩
def Apn (w:World)(B e size:Nat)(v:Value)(n:Nat)(xs:List Value):Prop :=
 w.ownsRow B e size v n xs\/((∃ao,v=.slice ao n n)/\Vec w size v n xs)
theorem vec_of_owns {w:World}{B e size n:Nat}{v:Value}{xs:List Value}(h:w.ownsRow B e size v n xs):Vec w size v n xs:=by
 rcases h.2 with ⟨rfl,rfl⟩ | ⟨g,cap,cur,rfl,hb,hg,h1,h2,h3,h4⟩
 ·have hx:xs=[]:=List.eq_nil_of_length_eq_zero (by rw [h.1];simp)
  subst hx
  exact vec_nil _ _
 ·refine ⟨_,cap,rfl,h1,h2,by simp,h.1,fun j u hj=>⟨g,0,rfl,?_⟩⟩
  have hlt:=(List.getElem?_eq_some_iff.1 hj).1
  have:=h.cellAt j (by rw [h.1] at hlt;exact hlt)
  rw [Nat.zero_add,this]
  exact hj
theorem Apn.vec {w:World}{B e size n:Nat}{v:Value}{xs:List Value}(h:Apn w B e size v n xs):Vec w size v n xs:=by
 rcases h with h | h
 ·exact vec_of_owns h
 ·exact h.2
theorem addr_add (b off j:Nat):(⟨b,off,none⟩:Addr).add j=⟨b,off+j,none⟩:=by
 unfold Addr.add
 by_cases hz:j=0
 ·subst hz;simp
 ·simp [hz]
theorem Vec.news {w:World}{size n cap:Nat}{ad:Addr}{xs:List Value}(h:Vec w size (.slice (some ad) n cap) n xs):∀j u,xs[j]? = some u->w.cell? (ad.add j)=some u:=by
 intro j u hj
 obtain ⟨b,off,e,hc⟩:=h.at j u hj
 simp at e
 subst e
 rw [addr_add]
 exact hc
theorem run_append_zero {P:Program}{w:World}(t ty e:TypeId)(i:TypeInfo)(ht:P.underlying t=some (.slice e))(hi:P.info? e=some i)(ao ax:Option Addr)(n c cx:Nat)(hn:n<=c) :
  (Builtin.append_ #[t,t] ty #[.slice ao n c,.slice ax 0 cx]).run P w=.ok (.slice ao n c) w:=by
 cases ao <;> cases ax <;> simp [Builtin.append_,run_underlying ht,sizeOf,typeInfo,hi,Builtin.lenOf,Builtin.firstCells,hn,storeCells,loadCells,loadCellsFrom]
def Grew (w:World)(B:Nat)(w':World):Prop:=∃r,w.grownBy w' r/\∀g,r=some g->B<=g
theorem Grew.none {w w':World}{B:Nat}(h:Grew w B w')(hB:w.heap.size<=B):w.grownBy w' none:=by
 obtain ⟨r,hg,hr⟩:=h
 exact ⟨hg.os,hg.tape,hg.output,hg.size,fun k hk _=>hg.block k hk (fun e=>by have:=hr k e.symm;omega)⟩
theorem Grew.after {a w w':World}{B:Nat}(h:Grew w B w')(ha:a.grownBy w Option.none)(hB:a.heap.size<=B):a.grownBy w' Option.none:=by
 obtain ⟨r,hg,hr⟩:=h
 exact grown_new ha hg (fun x hx=>by have:=hr x hx;omega)
theorem app_wp {o:Oper}{a:Act}{K:Act->World->Prop}{Q:Exit->Act->World->Prop}(w:World)(s x:Operand)(t e:TypeId)(z:Value)(size bytes:Nat)
  (hi:(Tryz.prog.info? e).map (fun i=>(i.zero,i.size,i.bytes))=some (some z,size,bytes)) (ht:Tryz.prog.underlying t=some (.slice e)) (hzs:z.cells.size=size) (hsz:0<size)
  (ho:o.op=.call { callee:=.builtin .append,args:=#[s,x],argTypes:=#[t,t] })
  (B:Nat) (v:Value) (n:Nat) (xs:List Value) (u:Value) (m:Nat) (ys:List Value) (hs:a.eval s=v) (hx:a.eval x=u) (hv:Apn w B e size v n xs) (hu:Vec w size u m ys) (h1c:∀y ∈ ys,y.oneCell'=true) (hb:(n+m)*bytes<=140737488355328) (hb2:n+m<=maxLen) (hB:B<=w.heap.size)
  (h:∀v' w',Apn w' B e size v' (n+m) (xs ++ ys)->Grew w B w'->(∀g,v'.ownBlock=some g->v.ownBlock=some g\/w.heap.size<=g)->K (a.put o.dst v') w'):o.wp Tryz.prog a w K Q:=by
 obtain ⟨i0,hi,hz0,hz1,hz2⟩:=info_parts hi
 have huv:=hu
 obtain ⟨ao,cap,rfl,h1,h2,h3,h4,h5⟩:=hu
 by_cases hm:0<m
 ·have ⟨ad,hao⟩:∃ad,ao=some ad:=by
   cases ao with
   | none=>have:=h3 rfl;omega
   | some ad=>exact ⟨ad,rfl⟩
  subst hao
  rcases hv with hv | ⟨⟨af,rfl⟩,hv⟩
  ·refine wp_append_lies w s x t ho B e i0 z size bytes ht hi hz0 hz1 hz2 hzs hsz v n xs hs hv ad m cap ys hx h4 huv.news h1c hm hb2 hb hB w.heap.size rfl ?_
   intro g cap' w' h1 h2 h3 _
   refine h _ w' (.inl h1) ⟨_,h2,fun k hk=>(World.ownsRow.lt hv k hk).1⟩ fun k hk=>?_
   simp [Value.ownBlock] at hk
   subst hk
   rcases h3 with h3 | h3
   ·exact .inl h3
   ·exact .inr (by omega)
  ·have hv':=hv
   obtain ⟨af',cf,e1,g2,g3,g4,g5,g6⟩:=hv
   simp at e1
   obtain ⟨rfl,rfl⟩:=e1
   have hx':a.eval x=.slice (some ad) m cap:=hx
   have hs':a.eval s=.slice af n n:=hs
   have key:∃v' w',(Builtin.append_ #[t,t] o.type #[.slice af n n,.slice (some ad) m cap]).run Tryz.prog w=.ok v' w'/\w'.ownsRow w.heap.size e size v' (n+m) (xs ++ ys)/\w.grownBy w' none:=by
    cases af with
    | some b=>exact run_append_arg_grows (P:=Tryz.prog) w t o.type e i0 z size bytes ht hi hz0 hz1 hz2 hzs hsz b n n xs g5 (hv'.news) ad m cap ys h4 huv.news (by omega) hb2 hb
    | none =>
     have hn0:n=0:=g4 rfl
     subst hn0
     obtain rfl:xs=[]:=List.eq_nil_of_length_eq_zero (by simpa using g5)
     obtain ⟨v',w',hrun,r1,r2,_⟩:=run_append_own (P:=Tryz.prog) w w.heap.size t o.type e i0 z size bytes ht hi hz0 hz1 hz2 hzs hsz (.slice none 0 0) 0 [] (World.ownsRow_nil w _ e size) ad m cap ys h4 huv.news h1c hb2 hb (Nat.le_refl _)
     exact ⟨v',w',hrun,r1,r2⟩
   obtain ⟨v',w',hrun,r1,r2⟩:=key
   unfold Oper.wp
   simp only [execOp,ho,resolve,invoke,builtin,Sem.run_bind,Sem.run_pure,Result.andThen_ok,List.map_toArray,List.map_cons,List.map_nil,hs',hx',hrun]
   refine h v' w' (.inl ?_) ⟨none,r2,by simp⟩ fun k hk=>.inr (World.ownsRow.lt r1 k hk).1
   refine ⟨r1.1,?_⟩
   rcases r1.2 with h2 | ⟨g,c,cur,k1,k2,k3⟩
   ·exact .inl h2
   ·exact .inr ⟨g,c,cur,k1,by omega,k3⟩
 ·have hm0:m=0:=by omega
  subst hm0
  obtain rfl:ys=[]:=List.eq_nil_of_length_eq_zero (by simpa using h4)
  obtain ⟨av,cv,ev,hcv,_⟩:=hv.vec.shape
  subst ev
  have hx':a.eval x=.slice ao 0 cap:=hx
  have hs':a.eval s=.slice av n cv:=hs
  have hrun:=run_append_zero (P:=Tryz.prog) (w:=w) t o.type e i0 ht hi av ao n cv cap hcv
  unfold Oper.wp
  simp only [execOp,ho,resolve,invoke,builtin,Sem.run_bind,Sem.run_pure,Result.andThen_ok,List.map_toArray,List.map_cons,List.map_nil,hs',hx',hrun]
  exact h _ w (by simpa using hv) ⟨none,grown_refl _ _,by simp⟩ fun k hk=>.inl hk
theorem app_at {ops:Array Oper}{rest:List Oper}{o:Oper}{a:Act}{Q:Exit->Act->World->Prop}(w:World)(hw:Region.wanted o (yielded ops a.tmps)=true)(s x:Operand)(t e:TypeId)(z:Value)(size bytes:Nat)
  (hi:(Tryz.prog.info? e).map (fun i=>(i.zero,i.size,i.bytes))=some (some z,size,bytes)) (ht:Tryz.prog.underlying t=some (.slice e)) (hzs:z.cells.size=size) (hsz:0<size)
  (ho:o.op=.call { callee:=.builtin .append,args:=#[s,x],argTypes:=#[t,t] })
  (B:Nat) (v:Value) (n:Nat) (xs:List Value) (u:Value) (m:Nat) (ys:List Value) (hs:a.eval s=v) (hx:a.eval x=u) (hv:Apn w B e size v n xs) (hu:Vec w size u m ys) (h1c:∀y ∈ ys,y.oneCell'=true) (hb:(n+m)*bytes<=140737488355328) (hb2:n+m<=maxLen) (hB:B<=w.heap.size)
  (h:∀v' w',Apn w' B e size v' (n+m) (xs ++ ys)->Grew w B w'->(∀g,v'.ownBlock=some g->v.ownBlock=some g\/w.heap.size<=g)->wpList Tryz.prog ops Q rest (a.put o.dst v') w'):wpList Tryz.prog ops Q (o :: rest) a w :=
 BigFrame.wpList_want hw fun _ hK=>app_wp w s x t e z size bytes hi ht hzs hsz ho B v n xs u m ys hs hx hv hu h1c hb hb2 hB fun v' w' h1 h2 h3=>hK _ _ (h v' w' h1 h2 h3)
theorem vec_piece {w:World}{size n cap:Nat}{ao:Option Addr}{xs:List Value}(h:Vec w size (.slice ao n cap) n xs)(lo hi:Nat)(h1:lo<=hi)(h2:hi<=n):Vec w size (sliced ao lo hi cap size) (hi-lo) ((xs.drop (lo*size)).take ((hi-lo)*size)):=by
 have hh:=h
 obtain ⟨ao1,cap',e1,k2,k3,k4,k5,k6⟩:=hh
 simp at e1
 obtain ⟨rfl,rfl⟩:=e1
 have h3:=h.take hi cap h2 (by omega) (Nat.le_refl _)
 unfold sliced
 have e:(xs.drop (lo*size)).take ((hi-lo)*size)=(xs.take (hi*size)).drop (lo*size):=by
  rw [List.drop_take,Nat.sub_mul]
 rw [e]
 refine h3.drop lo h1 _ (cap-lo) ?_ ?_ (by omega) (by omega)
 ·intro he
  by_cases hc:cap=lo
  ·omega
  ·rw [if_neg hc] at he
   have:=k4 (by simpa using he)
   omega
 ·intro b off hb hlt
  rw [if_neg (by omega),hb]
  simp [addr_add]
theorem run_piece (t size:Nat)(ht:Tryz.prog.underlying t=some (.slice (Tryz.prog.elem t)))(hsz:∀w,(sizeOf (Tryz.prog.elem t)).run Tryz.prog w=.ok size w)(ao:Option Addr)(n cap lo hi:Nat)(h1:lo<=hi)(h2:hi<=cap)(w:World) :
  (Instr.slice t (.slice ao n cap) (some (.int .i64 (lo:Int))) (some (.int .i64 (hi:Int))) none).run Tryz.prog w=.ok (sliced ao lo hi cap size) w:=by
 rw [run_slice_lh _ t ao n cap ht .i64 .i64 lo hi (by omega) (by omega) (by omega),hsz]
 simp [Result.andThen]
theorem run_rest (t size:Nat)(ht:Tryz.prog.underlying t=some (.slice (Tryz.prog.elem t)))(hsz:∀w,(sizeOf (Tryz.prog.elem t)).run Tryz.prog w=.ok size w)(ao:Option Addr)(n cap lo:Nat)(h1:lo<=n)(w:World) :
  (Instr.slice t (.slice ao n cap) (some (.int .i64 (lo:Int))) none none).run Tryz.prog w=.ok (sliced ao lo n cap size) w:=by
 rw [run_slice_l _ t ao n cap ht .i64 lo (by omega) (by omega),hsz]
 simp [Result.andThen]
abbrev Bs:=List UInt8
abbrev PRow:=Bs × Bs
def RowAt (w:World)(p:Nat)(r:PRow):Prop:=∃k v,Blk w p 86 #[k,v]/\Disk.Own w 0 k r.1/\Disk.Own w 0 v r.2
theorem RowAt.grown {w w':World}{p:Nat}{r:PRow}(h:RowAt w p r)(hg:w.grownBy w' none):RowAt w' p r:=by
 obtain ⟨k,v,h1,h2,h3⟩:=h
 exact ⟨k,v,h1.grown hg (by simp),h2.grown hg,h3.grown hg⟩
theorem own_off {w w':World}{B:Nat}{v:Value}{L:Bs}(h:Disk.Own w B v L){g t:Nat}{c:Array Value}(hg:w.grownBy w' (some g))(hb:Blk w g t c)(h5:t≠5):Disk.Own w' B v L :=
 h.same fun k hk=>hg.block k (h.lt k hk).2 (fun e=>h.other hb h5 (by rw [hk,e]))
theorem RowAt.off {w w':World}{p:Nat}{r:PRow}(h:RowAt w p r){g t:Nat}{c:Array Value}(hg:w.grownBy w' (some g))(hb:Blk w g t c)(h45:t≠86)(h5:t≠5):RowAt w' p r:=by
 obtain ⟨k,v,h1,h2,h3⟩:=h
 refine ⟨k,v,h1.grown hg (fun e=>?_),own_off h2 hg hb h5,own_off h3 hg hb h5⟩
 simp at e
 subst e
 unfold Blk at h1 hb
 rw [h1] at hb
 simp at hb
 exact h45 hb.2.symm
def ptr (p:Nat):Value:=.pointer (some ⟨p,0,none⟩)
def PTR (ps:List Nat):List Value:=ps.map ptr
theorem PTR_one (ps:List Nat):∀u ∈ PTR ps,u.oneCell'=true:=by
 intro u hu;simp [PTR] at hu;obtain ⟨x,_,rfl⟩:=hu;rfl
theorem PTR_append (a b:List Nat):PTR (a ++ b)=PTR a ++ PTR b:=by simp [PTR]
def Ats (w:World)(ps:List Nat)(l:List PRow):Prop:=ps.length=l.length/\∀j (h:j<ps.length) (h':j<l.length),RowAt w ps[j] l[j]
theorem Ats.grown {w w':World}{ps:List Nat}{l:List PRow}(h:Ats w ps l)(hg:w.grownBy w' none):Ats w' ps l:=⟨h.1,fun j a b=>(h.2 j a b).grown hg⟩
theorem Ats.off {w w':World}{ps:List Nat}{l:List PRow}(h:Ats w ps l){g t:Nat}{c:Array Value}(hg:w.grownBy w' (some g))(hb:Blk w g t c)(h45:t≠86)(h5:t≠5):Ats w' ps l:=⟨h.1,fun j a b=>(h.2 j a b).off hg hb h45 h5⟩
theorem Ats.append {w:World}{ps qs:List Nat}{l m:List PRow}(h:Ats w ps l)(k:Ats w qs m):Ats w (ps ++ qs) (l ++ m):=by
 refine ⟨by simp [h.1,k.1],fun j a b=>?_⟩
 rw [List.getElem_append,List.getElem_append]
 have:=h.1
 split <;> split
 ·exact h.2 _ _ _
 ·omega
 ·omega
 ·have:=k.2 (j-ps.length) (by simp at a;omega) (by simp at b;omega)
  simp only [h.1] at this ⊢
  exact this
theorem Ats.take {w:World}{ps:List Nat}{l:List PRow}(h:Ats w ps l)(k:Nat):Ats w (ps.take k) (l.take k):=by
 refine ⟨by simp [h.1],fun j a b=>?_⟩
 simp only [List.getElem_take]
 exact h.2 _ _ _
theorem Ats.drop {w:World}{ps:List Nat}{l:List PRow}(h:Ats w ps l)(k:Nat):Ats w (ps.drop k) (l.drop k):=by
 refine ⟨by simp [h.1],fun j a b=>?_⟩
 simp only [List.getElem_drop]
 exact h.2 _ _ _
def Rows (w:World)(v:Value)(l:List PRow):Prop:=∃ps,Ats w ps l/\Vec w 1 v l.length (PTR ps)
theorem Rows.grown {w w':World}{v:Value}{l:List PRow}(h:Rows w v l)(hg:w.grownBy w' none):Rows w' v l:=by
 obtain ⟨ps,h1,h2⟩:=h
 exact ⟨ps,h1.grown hg,h2.grown hg⟩
theorem Rows.first {w:World}{ao:Option Addr}{n cap:Nat}{l:List PRow}(h:Rows w (.slice ao n cap) l)(k:Nat)(hk:k<=n):Rows w (.slice ao k k) (l.take k):=by
 obtain ⟨ps,h1,h2⟩:=h
 have h2':=h2
 obtain ⟨ao',cap',e,hc,_⟩:=h2'
 simp at e
 obtain ⟨rfl,rfl,rfl⟩:=e
 refine ⟨ps.take k,h1.take k,?_⟩
 have:=h2.take k k (by omega) (Nat.le_refl _) (by omega)
 rw [List.length_take,Nat.min_eq_left (by omega)]
 unfold PTR at this ⊢
 rw [List.map_take]
 simpa using this
theorem rows_open {w:World}{v:Value}{l:List PRow}(h:Rows w v l):∃ao n cap,v=.slice ao n cap/\l.length=n/\n<=cap/\cap<=9223372036854775807/\Hid (Rows w (.slice ao n cap) l):=by
 have h':=h
 obtain ⟨ps,_,ao,cap,rfl,h2,h3,_⟩:=h'
 unfold maxLen at h3
 exact ⟨ao,_,cap,rfl,rfl,h2,by omega,h⟩
theorem rows_at {w:World}{ao:Option Addr}{n cap:Nat}{l:List PRow}(h:Rows w (.slice ao n cap) l)(j:Nat)(hj:j<l.length):∃b off p k v,ao=some ⟨b,off,none⟩/\w.cell? ⟨b,off+j,none⟩=some (.pointer (some ⟨p,0,none⟩))/\Blk w p 86 #[k,v]/\Seg w k l[j].1/\Seg w v l[j].2:=by
 obtain ⟨ps,h1,h2⟩:=h
 have e1:=h1.1
 obtain ⟨ao',cap',e,_,_,_,_,h6⟩:=h2
 simp at e
 obtain ⟨rfl,rfl,rfl⟩:=e
 obtain ⟨b,off,e,hc⟩:=h6 j (ptr (ps[j]'(by omega))) (by simp [PTR,e1,hj])
 obtain ⟨k,v,hb,hk,hv⟩:=h1.2 j (by omega) hj
 exact ⟨b,off,_,k,v,e,hc,hb,hk.seg,hv.seg⟩
theorem rows_row {w:World}{ao:Option Addr}{n cap:Nat}{l:List PRow}(h:Rows w (.slice ao n cap) l)(j:Nat)(hj:j<l.length):∃b off p,ao=some ⟨b,off,none⟩/\w.cell? ⟨b,off+j,none⟩=some (.pointer (some ⟨p,0,none⟩))/\RowAt w p l[j]:=by
 obtain ⟨ps,h1,h2⟩:=h
 have e1:=h1.1
 obtain ⟨ao',cap',e,_,_,_,_,h6⟩:=h2
 simp at e
 obtain ⟨rfl,rfl,rfl⟩:=e
 obtain ⟨b,off,e,hc⟩:=h6 j (ptr (ps[j]'(by omega))) (by simp [PTR,e1,hj])
 exact ⟨b,off,_,e,hc,h1.2 j (by omega) hj⟩
theorem rows_nil (w:World):Rows w (.slice none 0 0) []:=⟨[],⟨rfl,fun j h=>absurd h (by simp)⟩,vec_nil _ _⟩
theorem al (w:World)(c:Array Value)(t:Nat):∃w1,w.alloc (.cells c t)=w1/\Hid (Blk w1 w.heap.size t c/\w.grownBy w1 none/\w1.heap.size=w.heap.size+1) :=
 ⟨_,rfl,heap_alloc_new _ _,World.grownBy_alloc _ _ _,by simp⟩
def Tb (w:World)(b:Nat)(l:List PRow):Prop:=∃v,Blk w b 128 #[.bool true,v]/\Rows w v l
theorem Tb.grown {w w':World}{b:Nat}{l:List PRow}(h:Tb w b l)(hg:w.grownBy w' none):Tb w' b l:=by
 obtain ⟨v,h1,h2⟩:=h
 exact ⟨v,h1.grown hg (by simp),h2.grown hg⟩
theorem there34_nil (w:World):Calls Tryz.prog 69 #[.pointer none] w fun e w'=>e=.returned (.bool false)/\w'=w:=by
 go_enter Tryz.func69,Tryz.ntmps69
 go_wp2
 go_ret
 exact ⟨rfl,rfl⟩
theorem there34 (b:Nat)(is:Bool)(v:Value)(w:World)(h:Blk w b 128 #[.bool is,v]):Calls Tryz.prog 69 #[.pointer (some ⟨b,0,none⟩)] w fun e w'=>e=.returned (.bool is)/\w'=w:=by
 have c0:=h.cell 0
 go_enter Tryz.func69,Tryz.ntmps69
 go_wp2
 go_ret
 exact ⟨rfl,rfl⟩
theorem len23 (b:Nat)(l:List PRow)(w:World)(h:Tb w b l):Calls Tryz.prog 50 #[.pointer (some ⟨b,0,none⟩)] w fun e w'=>e=.returned (.int .i64 (l.length:Int))/\w'=w:=by
 obtain ⟨v,hb,hr⟩:=h
 obtain ⟨ps,_,ao,cap,rfl,_⟩:=hr
 have c1:=hb.cell 1
 have HB:Hid (Blk w b 128 #[.bool true,.slice ao l.length cap]):=hb
 go_enter Tryz.func50,Tryz.ntmps50
 go_wp2_with (go_at_call 69;refine (there34 b true _ w HB.out).mono ?_;rintro e w1 ⟨rfl,hw⟩;rw [hw];clear hw)
 go_ret
 exact ⟨rfl,rfl⟩
theorem first52 (b n:Nat)(l:List PRow)(w:World)(h:Tb w b l)(hn:n<=l.length):Calls Tryz.prog 96 #[.pointer (some ⟨b,0,none⟩),.int .i64 (n:Int)] w fun e w'=>∃f,e=.returned (.slice f n n)/\Rows w (.slice f n n) (l.take n)/\w'=w:=by
 obtain ⟨v,hb,hr⟩:=h
 obtain ⟨ao,m,cap,rfl,hm,h1,h2,HR⟩:=rows_open hr
 have c1:=hb.cell 1
 have HB:Hid (Blk w b 128 #[.bool true,.slice ao m cap]):=hb
 have i0:(0:Int)<=(n:Int):=by omega
 have i1:(n:Int)<=(cap:Int):=by omega
 have hnm:n<=m:=by omega
 clear hb hr hm hn
 go_enter Tryz.func96,Tryz.ntmps96
 go_wp2_with (go_at_call 69;refine (there34 b true _ w HB.out).mono ?_;rintro e w1 ⟨rfl,hw⟩;rw [hw];clear hw)
 go_ret
 exact ⟨ao,rfl,HR.out.first n hnm,rfl⟩
theorem list35 (b:Nat)(l:List PRow)(w:World)(h:Tb w b l):Calls Tryz.prog 71 #[.pointer (some ⟨b,0,none⟩)] w fun e w'=>∃f n,e=.returned (.slice f n n)/\n=l.length/\Rows w (.slice f n n) l/\w'=w:=by
 have HT:Hid (Tb w b l):=h
 obtain ⟨n,hn⟩:∃n,l.length=n:=⟨_,rfl⟩
 have HN:Hid (l.length=n):=hn
 have HQ:Hid (Calls Tryz.prog 50 #[.pointer (some ⟨b,0,none⟩)] w fun e w'=>e=.returned (.int .i64 (n:Int))/\w'=w):=by rw [<-hn];exact len23 b l w h
 clear h hn
 go_enter Tryz.func71,Tryz.ntmps71
 go_wp2_with (go_at_call 50;refine HQ.out.mono ?_;rintro e w1 ⟨rfl,hw⟩;rw [hw];clear hw)
 go_wp2_with (go_at_call 96;refine (first52 b n l w HT.out (by rw [HN.out];omega)).mono ?_)
 rintro e w1 ⟨f,rfl,hr,hw⟩
 rw [hw]
 have HR:Hid (Rows w (.slice f n n) l):=by
  rw [List.take_of_length_le (by rw [HN.out];omega)] at hr
  exact hr
 clear hw hr
 go_wp2_with fail
 go_ret
 exact ⟨f,n,rfl,HN.out.symm,HR.out,rfl⟩
def NoTb (w:World)(v:Value):Prop:=v=.pointer none\/∃b,v=.pointer (some ⟨b,0,none⟩)/\Blk w b 128 #[.bool false,.slice none 0 0]
theorem NoTb.grown {w w':World}{v:Value}(h:NoTb w v)(hg:w.grownBy w' none):NoTb w' v:=by
 rcases h with h | ⟨b,h1,h2⟩
 ·exact .inl h
 ·exact .inr ⟨b,h1,h2.grown hg (by simp)⟩
def Tl (w:World)(v:Value)(is:Bool)(l:List PRow):Prop:=(is=true/\∃b,v=.pointer (some ⟨b,0,none⟩)/\Tb w b l)\/(is=false/\l=[]/\NoTb w v)
theorem Tl.grown {w w':World}{v:Value}{is:Bool}{l:List PRow}(h:Tl w v is l)(hg:w.grownBy w' none):Tl w' v is l:=by
 rcases h with ⟨h0,b,h1,h2⟩ | ⟨h0,h1,h2⟩
 ·exact .inl ⟨h0,b,h1,h2.grown hg⟩
 ·exact .inr ⟨h0,h1,h2.grown hg⟩
theorem Tb.tl {w:World}{b:Nat}{l:List PRow}(h:Tb w b l):Tl w (.pointer (some ⟨b,0,none⟩)) true l:=.inl ⟨rfl,b,rfl,h⟩
theorem NoTb.tl {w:World}{v:Value}(h:NoTb w v):Tl w v false []:=.inr ⟨rfl,rfl,h⟩
theorem there34g (v:Value)(is:Bool)(l:List PRow)(w:World)(h:Tl w v is l):Calls Tryz.prog 69 #[v] w fun e w'=>e=.returned (.bool is)/\w'=w:=by
 rcases h with ⟨rfl,b,rfl,tv,h2,_⟩ | ⟨rfl,_,rfl | ⟨b,rfl,h2⟩⟩
 ·exact there34 b true tv w h2
 ·exact there34_nil w
 ·exact there34 b false _ w h2
theorem len23g (v:Value)(is:Bool)(l:List PRow)(w:World)(h:Tl w v is l):Calls Tryz.prog 50 #[v] w fun e w'=>e=.returned (.int .i64 (l.length:Int))/\w'=w:=by
 have h':=h
 rcases h with ⟨rfl,b,rfl,h2⟩ | ⟨rfl,rfl,_⟩
 ·exact len23 b l w h2
 ·have HT:Hid (Tl w v false []):=h'
  clear h'
  go_enter Tryz.func50,Tryz.ntmps50
  go_wp2_with (go_at_call 69;refine (there34g v false [] w HT.out).mono ?_;rintro e w1 ⟨rfl,hw⟩;rw [hw];clear hw)
  go_ret
  exact ⟨rfl,rfl⟩
theorem first52g (v:Value)(is:Bool)(n:Nat)(l:List PRow)(w:World)(h:Tl w v is l)(hn:n<=l.length):Calls Tryz.prog 96 #[v,.int .i64 (n:Int)] w fun e w'=>∃f,e=.returned (.slice f n n)/\Rows w (.slice f n n) (l.take n)/\w'=w:=by
 have h':=h
 rcases h with ⟨rfl,b,rfl,h2⟩ | ⟨rfl,rfl,_⟩
 ·exact first52 b n l w h2 hn
 ·have HT:Hid (Tl w v false []):=h'
  clear h'
  have hn0:n=0:=by simpa using hn
  subst hn0
  clear hn
  go_enter Tryz.func96,Tryz.ntmps96
  go_wp2_with (go_at_call 69;refine (there34g v false [] w HT.out).mono ?_;rintro e w1 ⟨rfl,hw⟩;rw [hw];clear hw)
  go_ret
  exact ⟨none,rfl,rows_nil w,rfl⟩
theorem list35g (v:Value)(is:Bool)(l:List PRow)(w:World)(h:Tl w v is l):Calls Tryz.prog 71 #[v] w fun e w'=>∃f n,e=.returned (.slice f n n)/\n=l.length/\Rows w (.slice f n n) l/\w'=w:=by
 have HT:Hid (Tl w v is l):=h
 obtain ⟨n,hn⟩:∃n,l.length=n:=⟨_,rfl⟩
 have HN:Hid (l.length=n):=hn
 have HQ:Hid (Calls Tryz.prog 50 #[v] w fun e w'=>e=.returned (.int .i64 (n:Int))/\w'=w):=by rw [<-hn];exact len23g v is l w h
 clear h hn
 go_enter Tryz.func71,Tryz.ntmps71
 go_wp2_with (go_at_call 50;refine HQ.out.mono ?_;rintro e w1 ⟨rfl,hw⟩;rw [hw];clear hw)
 go_wp2_with (go_at_call 96;refine (first52g v is n l w HT.out (by rw [HN.out];omega)).mono ?_)
 rintro e w1 ⟨f,rfl,hr,hw⟩
 rw [hw]
 have HR:Hid (Rows w (.slice f n n) l):=by
  rw [List.take_of_length_le (by rw [HN.out];omega)] at hr
  exact hr
 clear hw hr
 go_wp2_with fail
 go_ret
 exact ⟨f,n,rfl,HN.out.symm,HR.out,rfl⟩
end Go.Proofs.YtakmlhhapegpoaaGreat.Table
namespace Go.Proofs.YtakmlhhapegpoaaGreat.Table
open Go.RowKit Disk
open Names (cmpL)
def Rise (l:List PRow):Prop:=∀(i j:Nat) (hi:i<l.length) (hj:j<l.length),i<j->cmpL l[i].1 l[j].1<0
def rankL (l:List PRow)(key:Bs):Nat:=(l.takeWhile fun r=>decide (cmpL r.1 key<0)).length
theorem rank_le (l:List PRow)(key:Bs):rankL l key<=l.length:=by
 unfold rankL
 exact (List.takeWhile_sublist _).length_le
theorem rank_unique {l:List PRow}{key:Bs}{k:Nat}(hk:k<=l.length)(h1:∀(i:Nat) (hi:i<l.length),i<k->cmpL l[i].1 key<0)(h2:∀hk:k<l.length,¬cmpL l[k].1 key<0):rankL l key=k:=by
 unfold rankL
 have e:l=l.take k ++ l.drop k:=(List.take_append_drop k l).symm
 rw [e,List.takeWhile_append_of_pos]
 ·rcases Nat.lt_or_ge k l.length with hlt | hge
  ·rw [List.drop_eq_getElem_cons hlt,List.takeWhile_cons_of_neg (by simpa using h2 hlt)]
   simp;omega
  ·rw [List.drop_of_length_le hge]
   simp;omega
 ·intro r hr
  obtain ⟨i,hi,rfl⟩:=List.mem_iff_getElem.1 hr
  rw [List.length_take] at hi
  rw [List.getElem_take]
  exact decide_eq_true (h1 i (by omega) (by omega))
theorem rise_below {l:List PRow}{key:Bs}(hr:Rise l){i j:Nat}(hi:i<l.length)(hj:j<l.length)(hij:i<=j)(h:cmpL l[j].1 key<0):cmpL l[i].1 key<0:=by
 rcases Nat.lt_or_ge i j with hlt | hge
 ·have h1:=hr i j hi hj hlt
  exact Names.cmp_lt_trans (by omega) h
 ·have:i=j:=by omega
  subst this
  exact h
theorem cmp61q (a b:Value)(A B:List UInt8)(w:World)(n:Nat)(ha:Seg w a A)(hb:Seg w b B) :
  Calls Tryz.prog 73 #[a,b] (w.drewN n) fun e w''=>e=.returned (.int .i64 (cmpL A B))/\∃m,w''=w.drewN m :=
 Calls.quiet_of (Names.cmp26 a b A B _ (Names.seg_drewN ha n) (Names.seg_drewN hb n))
theorem ask63 (p q:Nat)(v kv:Value)(l:List PRow)(key:Bs)(i:Nat)(hi:i<l.length)(w:World)(hp:Blk w p 123 #[v])(hq:Blk w q 59 #[kv])(hv:Rows w v l)(hk:Seg w kv key) :
  Calls Tryz.prog 168 #[.int .i64 (i:Int),.pointer (some ⟨p,0,none⟩),.pointer (some ⟨q,0,none⟩)] w fun e w'=>e=.returned (.bool (decide (0<=cmpL l[i].1 key)))/\∃m,w'=w.drewN m:=by
 obtain ⟨ao,n,cap,rfl,hn,h1,h2,HR⟩:=rows_open hv
 obtain ⟨b,off,pr,k,x,rfl,hc,hb,hs1,hs2⟩:=rows_at HR.out i hi
 obtain ⟨A,hA⟩:∃A,l[i].1=A:=⟨_,rfl⟩
 rw [hA] at hs1 ⊢
 have hp0:=hp.cell 0
 have hq0:=hq.cell 0
 have hb0:=hb.cell 0
 simp at hp0 hq0 hb0
 have i0:(0:Int)<=(i:Int):=by omega
 have i1:(i:Int)<(n:Int):=by omega
 have i2:i<n:=by omega
 clear hp hq hv hb hn hA HR hs2 hi
 go_enter Tryz.func168,Tryz.ntmps168
 go_wp2_with fail
 go_quiet ((go_at_call 73;exact cmp61q _ _ _ _ _ _ (by assumption) (by assumption)))
 go_wp2_with fail
 go_ret
 exact ⟨by simp,_,rfl⟩
theorem half_facts (i j n:Nat)(hi:i<j)(_hj:j<=n)(_hn:n<=140737488355328):∃h,(i+j) / 2=h/\i<=h/\h<j:=⟨_,rfl,by omega,by omega⟩
theorem search62 (p q:Nat)(v kv:Value)(l:List PRow)(key:Bs)(n:Nat)(hn:l.length=n)(hz:n<=140737488355328)(hr:Rise l)(w:World)(hp:Blk w p 123 #[v])(hq:Blk w q 59 #[kv])(hv:Rows w v l)(hk:Seg w kv key) :
  Calls Tryz.prog 167 #[.int .i64 (n:Int),.func (.func 168) #[] #[.pointer (some ⟨p,0,none⟩),.pointer (some ⟨q,0,none⟩)]] w fun e w'=>e=.returned (.int .i64 (rankL l key:Nat))/\∃m,w'=w.drewN m:=by
 have HN:Hid (l.length=n):=hn
 have HQ:Hid (∀(i:Nat) (hi:i<l.length) (m:Nat),Calls Tryz.prog 168 #[.int .i64 (i:Int),.pointer (some ⟨p,0,none⟩),.pointer (some ⟨q,0,none⟩)] (w.drewN m) fun e w'=>e=.returned (.bool (decide (0<=cmpL l[i].1 key)))/\∃m,w'=w.drewN m):=fun i hi m=>Calls.quiet_of (ask63 p q v kv l key i hi _ (hp.grown (grown_drewN _ _ none) (by simp)) (hq.grown (grown_drewN _ _ none) (by simp)) (hv.grown (grown_drewN _ _ _)) (hk.grown (grown_drewN _ _ _)))
 have HR:Hid (Rise l):=hr
 clear hn hr hp hq hv hk
 go_enter Tryz.func167,Tryz.ntmps167
 go_wp2_with fail
 go_loopw [5,6] (fun x y wr=>∃(i j m:Nat),x=.int .i64 (i:Int)/\y=.int .i64 (j:Int)/\wr=w.drewN m/\i<=j/\j<=n/\(∀(a:Nat) (ha:a<l.length),a<i->cmpL l[a].1 key<0)/\(∀ha:j<l.length,¬cmpL l[j].1 key<0)) (fun x y _=>(intOf y).toNat-(intOf x).toNat)
 case atStart=>exact ⟨0,n,0,rfl,rfl,rfl,Nat.zero_le _,Nat.le_refl _,fun a _ h=>absurd h (by omega),fun h=>absurd h (by rw [HN.out];omega)⟩
 case round =>
  obtain ⟨i,j,m,rfl,rfl,rfl,hij,hjn,ha,hb⟩:=hrel
  have HA:Hid (∀(a:Nat) (ha:a<l.length),a<i->cmpL l[a].1 key<0):=ha
  have HB:Hid (∀ha:j<l.length,¬cmpL l[j].1 key<0):=hb
  clear ha hb
  rcases Nat.lt_or_ge i j with hlt | hge
  ·have h0:(i:Int)<(j:Int):=by omega
   obtain ⟨h,eh,h1,h2⟩:=half_facts i j n hlt hjn hz
   have HE:Hid ((i+j) / 2=h):=eh
   clear eh
   go_wp2_with fail
   rw [show ((i:Int)+(j:Int)) / 2=(h:Int) from by rw [<-HE.out];omega]
   refine (HQ.out h (by rw [HN.out];omega) m).mono ?_
   rintro e w2 ⟨rfl,m2,hw2⟩
   subst hw2
   obtain ⟨c,hc⟩:∃c,cmpL (l[h]'(by rw [HN.out];omega)).1 key=c:=⟨_,rfl⟩
   have HC:Hid (cmpL (l[h]'(by rw [HN.out];omega)).1 key=c):=hc
   rw [hc]
   clear hc
   by_cases hneg:c<0
   ·have hd:decide (0<=c)=false:=decide_eq_false (by omega)
    rw [hd]
    go_wp2_with fail
    go_roundw
    case rel =>
     refine ⟨h+1,j,m2,by simp,rfl,rfl,by omega,hjn,fun a ha hlt=>?_,by have:=HB.out;intro ha;have:=this ha;omega⟩
     rcases Nat.lt_or_ge a h with h3 | h3
     ·exact rise_below (j:=h) HR.out ha (by rw [HN.out];omega) (by omega) (by rw [HC.out];exact hneg)
     ·have:a=h:=by omega
      subst this
      rw [HC.out]
      exact hneg
    case measure=>simp [intOf];omega
   ·have hd:decide (0<=c)=true:=decide_eq_true (by omega)
    rw [hd]
    go_wp2_with fail
    go_roundw
    case rel=>exact ⟨i,h,m2,rfl,rfl,rfl,by omega,by omega,HA.out,fun ha=>by rw [HC.out];omega⟩
    case measure=>simp [intOf];omega
  ·have:i=j:=by omega
   subst this
   go_wp2_with fail
   go_ret
   exact ⟨by rw [rank_unique (key:=key) (k:=i) (by rw [HN.out];omega) HA.out (fun h=>by have:=HB.out h;omega)];rfl,_,rfl⟩
theorem rank25 (tv:Value)(is:Bool)(kv:Value)(l:List PRow)(key:Bs)(hr:Rise l)(hz:l.length<=1000000)(w:World)(ht:Tl w tv is l)(hk:Seg w kv key) :
  Calls Tryz.prog 165 #[tv,kv] w fun e w'=>e=.returned (.int .i64 (rankL l key:Nat))/\w.grownBy w' none:=by
 have HT:Hid (Tl w tv is l):=ht
 obtain ⟨ak,nk,ck,rfl,_,_,HK⟩:=Names.seg_open hk
 have HR:Hid (Rise l):=hr
 have HZ:Hid (l.length<=1000000):=hz
 clear ht hk hr hz
 go_enter Tryz.func165,Tryz.ntmps165
 go_wp2_with fail
 obtain ⟨w1,hw1,H1⟩:=al w #[.slice ak nk ck] 59
 rw [hw1]
 clear hw1
 refine (list35g tv is l w1 (HT.out.grown H1.out.2.1)).mono ?_
 rintro e w2 ⟨f,n,rfl,hn,hrw,hw2⟩
 rw [hw2]
 clear hw2
 have HN:Hid (n=l.length/\n<=140737488355328):=⟨hn,by have:=HZ.out;omega⟩
 have HW:Hid (Rows w1 (.slice f n n) l):=hrw
 clear hn hrw
 go_wp2_with fail
 obtain ⟨w2,hw2,H2⟩:=al w1 #[.slice f n n] 123
 rw [hw2]
 clear hw2
 refine (search62 w1.heap.size w.heap.size _ _ l key n HN.out.1.symm HN.out.2 HR.out w2 H2.out.1 (H1.out.1.grown H2.out.2.1 (by simp)) (HW.out.grown H2.out.2.1) (HK.out.grown (grown_trans H1.out.2.1 H2.out.2.1))).mono ?_
 rintro e w3 ⟨rfl,m,hw3⟩
 rw [hw3]
 clear hw3
 go_wp2_with fail
 go_ret
 exact ⟨rfl,grown_trans (grown_trans H1.out.2.1 H2.out.2.1) (grown_drewN _ _ _)⟩
theorem rank_cons (r:PRow)(l:List PRow)(key:Bs):rankL (r :: l) key=if cmpL r.1 key<0 then rankL l key+1 else 0:=by
 unfold rankL
 rw [List.takeWhile_cons]
 by_cases h:cmpL r.1 key<0 <;> simp [h]
theorem rank_lt:∀{l:List PRow} {key:Bs} {i:Nat} (_:i<rankL l key) (hi:i<l.length),cmpL l[i].1 key<0
 | [],_,_,_,hi=>absurd hi (by simp)
 | r :: l,key,i,h,hi=>by
  rw [rank_cons] at h
  split at h
  ·rename_i hr
   cases i with
   | zero=>exact hr
   | succ i=>exact rank_lt (l:=l) (by omega) (by simpa using hi)
  ·omega
theorem rank_ge:∀{l:List PRow} {key:Bs} (h:rankL l key<l.length),¬cmpL l[rankL l key].1 key<0
 | [],_,h=>absurd h (by simp)
 | r :: l,key,h=>by
  have e:=rank_cons r l key
  split at e
  ·have h2:rankL l key<l.length:=by rw [e] at h;simpa using h
   have:=rank_ge h2
   simp only [e,List.getElem_cons_succ]
   exact this
  ·rename_i hr
   simp only [e,List.getElem_cons_zero]
   exact hr
def hasL (l:List PRow)(key:Bs):Bool:=(l[rankL l key]?).any fun r=>decide (r.1=key)
theorem has_iff {l:List PRow}{key:Bs}:hasL l key=true<->∃h:rankL l key<l.length,l[rankL l key].1=key:=by
 unfold hasL
 by_cases h:rankL l key<l.length
 ·rw [List.getElem?_eq_getElem h];simp [h]
 ·rw [List.getElem?_eq_none (by omega)];simp;intro h2;omega
def endL (l:List PRow)(key:Bs):Nat:=rankL l key+(if hasL l key=true then 1 else 0)
theorem end_le (l:List PRow)(key:Bs):endL l key<=l.length:=by
 unfold endL
 have:=rank_le l key
 split
 ·rename_i h
  obtain ⟨h,_⟩:=has_iff.1 h
  omega
 ·omega
theorem end_ge (l:List PRow)(key:Bs):rankL l key<=endL l key:=by unfold endL;omega
theorem end_lt {l:List PRow}{key:Bs}:rankL l key<endL l key<->hasL l key=true:=by
 unfold endL
 split
 ·rename_i h;simp [h]
 ·rename_i h;simp [h]
theorem cmp_pos {A B:Bs}(h:¬cmpL A B<0)(hn:A≠B):cmpL B A<0:=by
 have h1:=Names.cmp_flip A B
 have h2:cmpL A B≠0:=fun e=>hn (Names.cmp_zero e)
 omega
theorem rank_next {l:List PRow}(hr:Rise l)(key:Bs):rankL l (key ++ [0])=endL l key:=by
 have na:=Names.next_above key
 unfold endL
 split
 ·rename_i h
  obtain ⟨hlt,he⟩:=has_iff.1 h
  refine rank_unique (by omega) (fun i hi hik=>?_) (fun hk=>?_)
  ·rcases Nat.lt_or_ge i (rankL l key) with h1 | h1
   ·exact Names.cmp_lt_trans (by have:=rank_lt h1 hi;omega) (by omega:cmpL key (key ++ [0])<0)
   ·have e:i=rankL l key:=by omega
    subst e
    rw [he]
    omega
  ·have h2:=hr (rankL l key) (rankL l key+1) hlt hk (by omega)
   rw [he] at h2
   exact Names.next_least h2
 ·rename_i h
  refine rank_unique (by have:=rank_le l key;omega) (fun i hi hik=>?_) (fun hk=>?_)
  ·exact Names.cmp_lt_trans (by have:=rank_lt (i:=i) (by omega) hi;omega) (by omega:cmpL key (key ++ [0])<0)
  ·have hk':rankL l key<l.length:=hk
   have hne:l[rankL l key].1≠key:=fun e=>h (has_iff.2 ⟨hk',e⟩)
   exact Names.next_least (cmp_pos (rank_ge hk') hne)
def putL (l:List PRow)(k v:Bs):List PRow:=l.take (rankL l k) ++ ((k,v) :: l.drop (endL l k))
def delL (l:List PRow)(k:Bs):List PRow:=l.take (rankL l k) ++ l.drop (endL l k)
theorem put_len (l:List PRow)(k v:Bs):(putL l k v).length=l.length+1-(if hasL l k=true then 1 else 0):=by
 have h1:=rank_le l k
 have h2:=end_le l k
 unfold putL
 have h3:endL l k=rankL l k+(if hasL l k=true then 1 else 0):=rfl
 by_cases hh:hasL l k=true
 ·rw [if_pos hh] at h3 ⊢
  simp
  omega
 ·rw [if_neg hh] at h3 ⊢
  simp
  omega
theorem del_len (l:List PRow)(k:Bs):(delL l k).length=l.length-(if hasL l k=true then 1 else 0):=by
 have h1:=rank_le l k
 have h2:=end_le l k
 unfold delL
 have h3:endL l k=rankL l k+(if hasL l k=true then 1 else 0):=rfl
 by_cases hh:hasL l k=true
 ·rw [if_pos hh] at h3 ⊢
  simp
  omega
 ·rw [if_neg hh] at h3 ⊢
  simp
  omega
def spanE (l:List PRow)(F T:Bs):Nat:=if T.length=0 then l.length else max (rankL l F) (rankL l T)
theorem span_le (l:List PRow)(F T:Bs):spanE l F T<=l.length:=by
 unfold spanE
 have:=rank_le l F
 have:=rank_le l T
 split <;> omega
theorem span_ge (l:List PRow)(F T:Bs):rankL l F<=spanE l F T:=by
 unfold spanE
 have:=rank_le l F
 split <;> omega
theorem span_row {l:List PRow}(hr:Rise l)(key:Bs):spanE l key (key ++ [0])=endL l key:=by
 unfold spanE
 rw [rank_next hr,if_neg (by simp)]
 have:=end_ge l key
 omega
theorem rise_append {a b:List PRow}(ha:Rise a)(hb:Rise b)(h:∀(i j:Nat) (hi:i<a.length) (hj:j<b.length),cmpL a[i].1 b[j].1<0):Rise (a ++ b):=by
 intro i j hi hj hij
 rw [List.getElem_append,List.getElem_append]
 split <;> split
 ·exact ha _ _ _ _ hij
 ·exact h _ _ _ _
 ·omega
 ·exact hb _ _ _ _ (by omega)
theorem rise_take {l:List PRow}(h:Rise l)(k:Nat):Rise (l.take k):=by
 intro i j hi hj hij
 simp only [List.getElem_take]
 exact h _ _ _ _ hij
theorem rise_drop {l:List PRow}(h:Rise l)(k:Nat):Rise (l.drop k):=by
 intro i j hi hj hij
 simp only [List.getElem_drop]
 exact h _ _ _ _ (by omega)
theorem rise_one (r:PRow):Rise [r]:=fun i j hi hj hij=>by simp at hi hj;omega
theorem end_above {l:List PRow}(hr:Rise l){k:Bs}{j:Nat}(hj:j<l.length)(h:endL l k<=j):cmpL k l[j].1<0:=by
 unfold endL at h
 split at h
 ·rename_i hh
  obtain ⟨hlt,he⟩:=has_iff.1 hh
  have:=hr (rankL l k) j hlt hj (by omega)
  rw [he] at this
  exact this
 ·rename_i hh
  have hlt:rankL l k<l.length:=by omega
  have hne:l[rankL l k].1≠k:=fun e=>hh (has_iff.2 ⟨hlt,e⟩)
  have h1:=cmp_pos (rank_ge hlt) hne
  rcases Nat.lt_or_ge (rankL l k) j with h2 | h2
  ·exact Names.cmp_lt_trans (by omega) (hr _ _ hlt hj h2)
  ·have e:j=rankL l k:=by omega
   subst e
   exact h1
theorem rise_put {l:List PRow}(h:Rise l)(k v:Bs):Rise (putL l k v):=by
 unfold putL
 refine rise_append (rise_take h _) (rise_append (a:=[(k,v)]) (rise_one _) (rise_drop h _) ?_) ?_
 ·intro i j hi hj
  simp at hi
  subst hi
  simp only [List.getElem_drop,List.getElem_cons_zero]
  exact end_above h _ (by omega)
 ·intro i j hi hj
  simp only [List.getElem_take]
  simp at hi
  have h1:=rank_lt (l:=l) (key:=k) (i:=i) (by omega) (by omega)
  cases j with
  | zero=>exact h1
  | succ j =>
   simp only [List.getElem_cons_succ,List.getElem_drop]
   simp at hj
   exact Names.cmp_lt_trans (Int.le_of_lt h1) (end_above h (by omega) (by omega))
theorem rise_del {l:List PRow}(h:Rise l)(k:Bs):Rise (delL l k):=by
 unfold delL
 refine rise_append (rise_take h _) (rise_drop h _) ?_
 intro i j hi hj
 simp only [List.getElem_take,List.getElem_drop]
 simp at hi hj
 have h1:=rank_lt (l:=l) (key:=k) (i:=i) (by omega) (by omega)
 exact Names.cmp_lt_trans (Int.le_of_lt h1) (end_above h (by omega) (by omega))
theorem run_max2 (ts:Array TypeId)(t:TypeId)(m n:Nat)(w:World):(Builtin.max_ ts t #[.int .i64 m,.int .i64 n]).run Tryz.prog w=.ok (.int .i64 ((max m n:Nat):Int)) w:=by
 by_cases h:m<=n
 ·rw [Nat.max_eq_right h]
  simp [Builtin.max_,Builtin.max2]
  try omega
 ·rw [Nat.max_eq_left (by omega)]
  simp [Builtin.max_,Builtin.max2]
  try omega
attribute [local go_sem ↓] run_max2
theorem span50 (tv:Value)(is:Bool)(f t:Value)(l:List PRow)(F T:Bs)(hr:Rise l)(hz:l.length<=1000000)(w:World)(ht:Tl w tv is l)(hf:Seg w f F)(hT:Seg w t T) :
  Calls Tryz.prog 162 #[tv,f,t] w fun e w'=>e=.returned (.tuple #[.int .i64 (rankL l F:Nat),.int .i64 (spanE l F T:Nat)])/\w.grownBy w' none:=by
 have HT:Hid (Tl w tv is l/\Seg w f F):=⟨ht,hf⟩
 have HR:Hid (Rise l/\l.length<=1000000):=⟨hr,hz⟩
 obtain ⟨ao,nt,ct,rfl,hnt,_,HS⟩:=Names.seg_open hT
 have HNT:Hid (T.length=nt):=hnt
 obtain ⟨n,hn⟩:∃n,l.length=n:=⟨_,rfl⟩
 have HN:Hid (l.length=n):=hn
 obtain ⟨rf,hrf⟩:∃n,rankL l F=n:=⟨_,rfl⟩
 have HF:Hid (rankL l F=rf):=hrf
 obtain ⟨rt,hrt⟩:∃n,rankL l T=n:=⟨_,rfl⟩
 have HRT:Hid (rankL l T=rt):=hrt
 rw [hrf]
 clear ht hf hT hr hz hnt hn hrf hrt
 go_enter Tryz.func162,Tryz.ntmps162
 go_wp2_with fail
 refine (rank25 tv is f l F HR.out.1 HR.out.2 w HT.out.1 HT.out.2).mono ?_
 rintro e w1 ⟨rfl,g1⟩
 have G1:Hid (w.grownBy w1 none):=g1
 clear g1
 rw [HF.out]
 go_wp2_with fail
 refine (len23g tv is l w1 (HT.out.1.grown G1.out)).mono ?_
 rintro e w2 ⟨rfl,hw2⟩
 rw [hw2,HN.out]
 clear hw2
 by_cases h0:nt=0
 ·subst h0
  have hE:spanE l F T=n:=by unfold spanE;rw [if_pos HNT.out,HN.out]
  have HE:Hid (spanE l F T=n):=hE
  clear hE
  go_wp2_with fail
  go_ret2
  exact ⟨by rw [HE.out];rfl,G1.out⟩
 ·have hE:spanE l F T=max rf rt:=by unfold spanE;rw [if_neg (by rw [HNT.out];exact h0),HF.out,HRT.out]
  have HE:Hid (spanE l F T=max rf rt):=hE
  clear hE
  have h1:(0:Int)<(nt:Int):=by omega
  go_wp2_with fail
  refine (rank25 tv is _ l T HR.out.1 HR.out.2 w1 (HT.out.1.grown G1.out) (HS.out.grown G1.out)).mono ?_
  rintro e w2 ⟨rfl,g2⟩
  rw [HRT.out]
  have G2:Hid (w.grownBy w2 none):=grown_trans G1.out g2
  clear g2
  go_wp2_with fail
  go_ret2
  exact ⟨by rw [HE.out];rfl,G2.out⟩
theorem row64 (b:Nat)(kv:Value)(l:List PRow)(key:Bs)(hr:Rise l)(hz:l.length<=1000000)(hkl:key.length<=100000)(w:World)(ht:Tb w b l)(hk:Seg w kv key) :
  Calls Tryz.prog 160 #[.pointer (some ⟨b,0,none⟩),kv] w fun e w'=>e=.returned (.tuple #[.int .i64 (rankL l key:Nat),.int .i64 (endL l key:Nat)])/\w.grownBy w' none:=by
 have HT:Hid (Tb w b l/\Seg w kv key):=⟨ht,hk⟩
 have HR:Hid (Rise l/\l.length<=1000000):=⟨hr,hz⟩
 have HE:Hid (spanE l key (key ++ [0])=endL l key):=span_row hr key
 clear ht hk hr hz
 go_enter Tryz.func160,Tryz.ntmps160
 go_wp2_with fail
 refine (Names.next21 kv key w HT.out.2 (by omega)).mono ?_
 rintro e w1 ⟨x,rfl,hx,g1⟩
 have G1:Hid (w.grownBy w1 none/\Seg w1 x (key ++ [0])):=⟨g1,hx.seg⟩
 clear g1 hx
 go_wp2_with fail
 refine (span50 _ true kv x l key (key ++ [0]) HR.out.1 HR.out.2 w1 (HT.out.1.grown G1.out.1).tl (HT.out.2.grown G1.out.1) G1.out.2).mono ?_
 rintro e w2 ⟨rfl,g2⟩
 have G2:Hid (w.grownBy w2 none):=grown_trans G1.out.1 g2
 clear g2
 rw [HE.out]
 go_wp2_with fail
 go_ret2
 exact ⟨rfl,G2.out⟩
theorem ownRow55 (kv vv:Value)(k v:Bs)(w:World)(hk:Seg w kv k)(hv:Seg w vv v)(hkl:k.length<=140737488355328)(hvl:v.length<=140737488355328) :
  Calls Tryz.prog 75 #[kv,vv] w fun e w'=>∃p,e=.returned (.pointer (some ⟨p,0,none⟩))/\w.heap.size<=p/\(∃x y,Blk w' p 86 #[x,y]/\Disk.Own w' w.heap.size x k/\Disk.Own w' w.heap.size y v/\(∀g,x.ownBlock=some g->y.ownBlock≠some g))/\w.grownBy w' none:=by
 have HS:Hid (Seg w kv k/\Seg w vv v):=⟨hk,hv⟩
 clear hk hv
 go_enter Tryz.func75,Tryz.ntmps75
 go_wp2_with fail
 refine (Disk.clone25 kv k w HS.out.1 hkl).mono ?_
 rintro e w1 ⟨x,rfl,ox,g1⟩
 have G1:Hid (w.grownBy w1 none/\Disk.Own w1 w.heap.size x k):=⟨g1,ox⟩
 obtain ⟨ax,cx,ex⟩:=ox.seg.shape
 subst ex
 clear g1 ox
 go_wp2_with fail
 refine (Disk.clone25 vv v w1 (HS.out.2.grown G1.out.1) hvl).mono ?_
 rintro e w2 ⟨y,rfl,oy,g2⟩
 have G2:Hid (w1.grownBy w2 none/\Disk.Own w2 w1.heap.size y v):=⟨g2,oy⟩
 obtain ⟨ay,cy,ey⟩:=oy.seg.shape
 subst ey
 clear g2 oy
 go_wp2_with fail
 obtain ⟨w3,hw3,H3⟩:=al w2 #[.slice ax k.length cx,.slice ay v.length cy] 86
 rw [hw3]
 clear hw3
 go_wp2_with fail
 go_ret
 have s1:=G1.out.1.size
 have s2:=G2.out.1.size
 refine ⟨_,rfl,by omega,⟨_,_,H3.out.1,(G1.out.2.grown G2.out.1).grown H3.out.2.1,(G2.out.2.grown H3.out.2.1).mono s1,fun g hg hg'=>?_⟩,grown_trans G1.out.1 (grown_trans G2.out.1 H3.out.2.1)⟩
 have:=(G1.out.2.lt g hg).2
 have:=(G2.out.2.lt g hg').1
 omega
theorem mayBe53 (kv vv:Value)(k v:Bs)(w:World)(hk:Seg w kv k)(hv:Seg w vv v) :
  Calls Tryz.prog 74 #[kv,vv] w fun e w'=>e=.returned (.bool (Names.keyB k && Names.valueB v))/\w'=w:=by
 have HS:Hid (Seg w kv k/\Seg w vv v):=⟨hk,hv⟩
 clear hk hv
 go_enter Tryz.func74,Tryz.ntmps74
 go_wp2_with fail
 refine (Names.key11 kv k w HS.out.1).mono ?_
 rintro e w1 ⟨rfl,hw1⟩
 rw [hw1]
 clear hw1
 cases hkk:Names.keyB k
 ·go_wp2_with fail
  go_ret
  exact ⟨by simp [hkk],rfl⟩
 ·go_wp2_with fail
  refine (Names.value13 vv v w HS.out.2).mono ?_
  rintro e w1 ⟨rfl,hw1⟩
  rw [hw1]
  clear hw1
  go_wp2_with fail
  go_ret
  exact ⟨by simp [hkk],rfl⟩
end Go.Proofs.YtakmlhhapegpoaaGreat.Table
namespace Go.Proofs.YtakmlhhapegpoaaGreat.Table
open Go.RowKit Disk
open Names (cmpL keyB valueB)
theorem Tryz.info124:(Tryz.prog.info? 124).map (fun i=>(i.zero,i.size,i.bytes))=some (some (.pointer none),1,8):=by kernel_rfl
theorem ut66:Tryz.prog.underlying 123=some (.slice (Tryz.prog.elem 123)):=by kernel_rfl
theorem ut66':Tryz.prog.underlying 123=some (.slice 124):=by kernel_rfl
theorem size66 (w:World):(sizeOf (Tryz.prog.elem 123)).run Tryz.prog w=.ok 1 w:=by kernel_rfl
theorem PTR_take (ps:List Nat)(k:Nat):PTR (ps.take k)=(PTR ps).take k:=by simp [PTR,List.map_take]
theorem PTR_drop (ps:List Nat)(k:Nat):PTR (ps.drop k)=(PTR ps).drop k:=by simp [PTR,List.map_drop]
theorem rows_piece {w:World}{ao:Option Addr}{n cap:Nat}{l:List PRow}(h:Rows w (.slice ao n cap) l)(lo hi:Nat)(h1:lo<=hi)(h2:hi<=n):Rows w (sliced ao lo hi cap 1) ((l.drop lo).take (hi-lo)):=by
 obtain ⟨ps,ha,hv⟩:=h
 have hv':=hv
 obtain ⟨ao1,c1,e1,_⟩:=hv'
 simp at e1
 obtain ⟨rfl,rfl,rfl⟩:=e1
 have:=vec_piece hv lo hi h1 h2
 refine ⟨(ps.drop lo).take (hi-lo),(ha.drop lo).take _,?_⟩
 rw [PTR_take,PTR_drop,List.length_take,List.length_drop,Nat.min_eq_left (by omega)]
 simpa using this
theorem rows_rest {w:World}{ao:Option Addr}{n cap:Nat}{l:List PRow}(h:Rows w (.slice ao n cap) l)(hn:l.length=n)(lo:Nat)(h1:lo<=n):Rows w (sliced ao lo n cap 1) (l.drop lo):=by
 have:=rows_piece h lo n h1 (Nat.le_refl _)
 rwa [List.take_of_length_le (by rw [List.length_drop];omega)] at this
theorem off_cell {w w':World}{b:Nat}(hg:w.grownBy w' (some b)){m:Bool}{ao:Option Addr}{n cap:Nat}(hb:Blk w b 128 #[.bool m,.slice ao n cap]){g j:Nat}{u:Value}(hx:w.cell? ⟨g,j,none⟩=some u)(hu:∀m,u≠.bool m)(hu':∀a n c,u≠.slice a n c):w'.cell? ⟨g,j,none⟩=some u:=by
 have hne:g≠b:=fun e=>by
  subst e
  rw [hb.cell j] at hx
  rcases j with _ | _ | j
  ·simp at hx;exact hu _ hx.symm
  ·simp at hx;exact hu' _ _ _ hx.symm
  ·simp at hx
 exact hg.cell hx (by simp;omega)
theorem off_rows {w w':World}{b:Nat}(hg:w.grownBy w' (some b)){m:Bool}{ao:Option Addr}{n cap:Nat}(hb:Blk w b 128 #[.bool m,.slice ao n cap]){v:Value}{l:List PRow}(h:Rows w v l):Rows w' v l:=by
 obtain ⟨ps,ha,hv⟩:=h
 refine ⟨ps,ha.off hg hb (by decide) (by decide),hv.cells fun g j u hu hx=>?_⟩
 simp [PTR] at hu
 obtain ⟨p,_,rfl⟩:=hu
 exact off_cell hg hb hx (by simp [ptr]) (by simp [ptr])
theorem change54 (b:Nat)(kv rv:Value)(l R:List PRow)(key:Bs)(hr:Rise l)(hz:l.length<=1000000)(hR:R.length<=1)(hkl:key.length<=100000)(w:World)(ht:Tb w b l)(hk:Seg w kv key)(hv:Rows w rv R) :
  Calls Tryz.prog 161 #[.pointer (some ⟨b,0,none⟩),kv,rv] w fun e w'=>e=.returned (.bool (hasL l key))/\Tb w' b (l.take (rankL l key) ++ (R ++ l.drop (endL l key)))/\w.grownBy w' (some b):=by
 have HT:Hid (Tb w b l/\Seg w kv key/\Rows w rv R):=⟨ht,hk,hv⟩
 have HR:Hid (Rise l/\l.length<=1000000/\R.length<=1):=⟨hr,hz,hR⟩
 obtain ⟨rk,hrk⟩:∃n,rankL l key=n:=⟨_,rfl⟩
 obtain ⟨en,hen⟩:∃n,endL l key=n:=⟨_,rfl⟩
 have l1:=end_le l key
 have l2:=end_ge l key
 have l3:=end_lt (l:=l) (key:=key)
 rw [hen] at l1
 rw [hrk,hen] at l2 l3
 have HQ:Hid (rankL l key=rk/\endL l key=en/\(rk<en<->hasL l key=true)):=⟨hrk,hen,l3⟩
 clear ht hk hr hz hv hR hrk hen l3
 go_enter Tryz.func161,Tryz.ntmps161
 go_wp2_with fail
 refine (row64 b kv l key HR.out.1 HR.out.2.1 hkl w HT.out.1 HT.out.2.1).mono ?_
 rintro e w1 ⟨rfl,g1⟩
 rw [HQ.out.1,HQ.out.2.1]
 have G1:Hid (w.grownBy w1 none):=g1
 clear g1
 obtain ⟨tv,hb,hrows⟩:=HT.out.1.grown G1.out
 obtain ⟨ao,n,cap,rfl,hn,h1,h2,HV⟩:=rows_open hrows
 have HB:Hid (Blk w1 b 128 #[.bool true,.slice ao n cap]):=hb
 have HN:Hid (l.length=n):=hn
 have e1:en<=n:=by omega
 clear hb hrows l1 hn
 obtain ⟨sv,hsv⟩:∃v,sliced ao en n cap 1=v:=⟨_,rfl⟩
 have hsl:∀wk,(Instr.slice 123 (.slice ao n cap) (some (.int .i64 (en:Int))) none none).run Tryz.prog wk=.ok sv wk:=fun wk=>by rw [<-hsv];exact run_rest 123 1 ut66 size66 ao n cap en e1 wk
 have HS:Hid (Rows w1 sv (l.drop en)):=by rw [<-hsv];exact rows_rest HV.out HN.out en e1
 clear hsv
 go_wp2_with fail
 have HM:Hid (∀y:World,w1.grownBy y none->y.cell? ⟨b,1,none⟩=some (.slice ao n cap)/\y.frozen? ⟨b,1,none⟩=false):=fun y hy=>⟨(HB.out.grown hy (by simp)).cell 1,(HB.out.grown hy (by simp)).free 1⟩
 refine wp_region_noPanic ?_
 refine wp_region_hold 15 (fun y=>w1.grownBy y none) (by kernel_rfl) ?_
 have G0:Hid (w1.grownBy w1.drew none):=grown_drew _ _
 generalize w1.drew=wd at G0 ⊢
 have J:Idx [0,1,2,4,6,7,8,9,10,11]:=trivial
 iterate 10 (refine tK J (G0.out) rfl rfl (fun wk hk=>by obtain ⟨m0,m1⟩:=HM.out wk hk;go_simp;try rfl) ?_;replace J:=J.tl;try simp only [pN])
 clear J
 refine wpHold_one (i:=3) rfl (by kernel_rfl) (by rfl) (fun K hK=>?_)
 go_wp2_with (go_at_call 96;refine (first52 b rk l wd ((HT.out.1.grown G1.out).grown G0.out) (by rw [HN.out];omega)).mono ?_)
 rintro e w2 ⟨f,rfl,hrf,hw2⟩
 rw [hw2]
 clear hw2
 have HF:Hid (Rows wd (.slice f rk rk) (l.take rk)):=hrf
 clear hrf
 go_wp2_with fail
 refine hK.out _ _ (fun _=>G0.out) ?_
 clear hK K
 try simp only [pN]
 refine wpHold_one (i:=5) rfl (by kernel_rfl) (by rfl) (fun K hK=>?_)
 obtain ⟨ps,hps,hpv⟩:=HF.out
 obtain ⟨qs,hqs,hqv⟩:=(HT.out.2.2.grown G1.out).grown G0.out
 have hlk:(l.take rk).length=rk:=by rw [List.length_take,HN.out];omega
 rw [hlk] at hpv
 refine app_wp wd _ _ 123 124 (.pointer none) 1 8 Tryz.info124 ut66' rfl (by decide) rfl wd.heap.size (.slice f rk rk) rk (PTR ps) rv R.length (PTR qs) rfl rfl (.inr ⟨⟨f,rfl⟩,hpv⟩) hqv (PTR_one _) ?_ ?_ (Nat.le_refl _) ?_
 ·have:=HR.out.2.2;have:=HR.out.2.1;rw [HN.out] at this;omega
 ·have:=HR.out.2.2;have:=HR.out.2.1;rw [HN.out] at this;unfold maxLen;omega
 intro v2 w2 hv2 hg2 hb2
 have HA:Hid (Apn w2 wd.heap.size 124 1 v2 (rk+R.length) (PTR ps ++ PTR qs)/\wd.grownBy w2 none/\Ats wd ps (l.take rk)/\Ats wd qs R):=by
  obtain ⟨r,hg,hr⟩:=hg2
  have hg':wd.grownBy w2 none:=⟨hg.os,hg.tape,hg.output,hg.size,fun k hk _=>hg.block k hk (fun e=>by have:=hr k e.symm;omega)⟩
  exact ⟨hv2,hg',hps,hqs⟩
 obtain ⟨a2,c2,e2,_⟩:=hv2.vec.shape
 subst e2
 clear hv2 hg2 hb2 hps hpv hqs hqv hlk HF
 have G2:Hid (w1.grownBy w2 none):=grown_trans G0.out HA.out.2.1
 refine hK.out _ _ (fun _=>G2.out) ?_
 clear hK K
 try simp only [pN]
 refine wpHold_one (i:=12) rfl (by kernel_rfl) (by rfl) (fun K hK=>?_)
 obtain ⟨us,hus,huv0⟩:=HS.out
 have huv:=huv0.grown G2.out
 have hlk:(l.drop en).length=n-en:=by rw [List.length_drop,HN.out]
 rw [hlk] at huv
 refine app_wp w2 _ _ 123 124 (.pointer none) 1 8 Tryz.info124 ut66' rfl (by decide) rfl wd.heap.size (.slice a2 (rk+R.length) c2) (rk+R.length) (PTR ps ++ PTR qs) sv (n-en) (PTR us) rfl rfl HA.out.1 huv (PTR_one _) ?_ ?_ HA.out.2.1.size ?_
 ·have:=HR.out.2.2;have:=HR.out.2.1;rw [HN.out] at this;omega
 ·have:=HR.out.2.2;have:=HR.out.2.1;rw [HN.out] at this;unfold maxLen;omega
 intro v3 w3 hv3 hg3 hb3
 have HC:Hid (Rows w3 v3 (l.take rk ++ (R ++ l.drop en))/\wd.grownBy w3 none):=by
  obtain ⟨r,hg,hr⟩:=hg3
  have hg':wd.grownBy w3 none:=grown_new HA.out.2.1 hg (fun x hx=>hr x hx)
  refine ⟨⟨ps ++ (qs ++ us),?_,?_⟩,hg'⟩
  ·exact ((HA.out.2.2.1.grown hg').append ((HA.out.2.2.2.grown hg').append (hus.grown (grown_trans G0.out hg'))))
  ·have:=hv3.vec
   rw [PTR_append,PTR_append,<-List.append_assoc (PTR ps)]
   have e:(l.take rk ++ (R ++ l.drop en)).length=rk+R.length+(n-en):=by simp [HN.out];omega
   rw [e]
   exact this
 obtain ⟨a3,c3,e3,_⟩:=hv3.vec.shape
 subst e3
 clear hv3 hg3 hb3 hus huv huv0 hlk
 have G3:Hid (w1.grownBy w3 none):=grown_trans G0.out HC.out.2
 refine hK.out _ _ (fun _=>G3.out) ?_
 clear hK K
 try simp only [pN]
 have J:Idx [13,14]:=trivial
 iterate 2 (refine tK J (G3.out) rfl rfl (fun wk hk=>by obtain ⟨m0,m1⟩:=HM.out wk hk;go_simp;try rfl) ?_;replace J:=J.tl;try simp only [pN])
 clear J
 refine wpHold_one (i:=15) rfl (by kernel_rfl) (by rfl) (fun K hK=>?_)
 obtain ⟨m0,m1⟩:=HM.out w3 G3.out
 go_wp2_with fail
 have HD:Hid (Tb (w3.setCell ⟨b,1,none⟩ (.slice a3 (rk+R.length+(n-en)) c3)) b (l.take rk ++ (R ++ l.drop en))/\w.grownBy (w3.setCell ⟨b,1,none⟩ (.slice a3 (rk+R.length+(n-en)) c3)) (some b)):=by
  have hb3:=HB.out.grown G3.out (by simp)
  refine ⟨⟨_,hb3.store 1 _,?_⟩,grown_trans (grown_weak (grown_trans G1.out G3.out) _) (grown_setCell _ _ _ _)⟩
  exact off_rows (grown_setCell _ _ _ _) hb3 HC.out.1
 generalize w3.setCell ⟨b,1,none⟩ (.slice a3 (rk+R.length+(n-en)) c3)=w4 at HD ⊢
 refine hK.out _ _ (fun h=>absurd rfl h) ?_
 clear hK K
 try simp only [pN]
 refine wpHold_done (by kernel_rfl) ?_
 refine (‹∀(a:Act) (w:World),Code.wp Tryz.prog _ _ a w->_› _ _ ?_)
 clear hsl
 go_wp2_with fail
 go_ret
 refine ⟨?_,by rw [HQ.out.1,HQ.out.2.1];exact HD.out.1,HD.out.2⟩
 have h3:=HQ.out.2.2
 by_cases h:rk<en
 ·rw [h3.1 h];simp [h]
 ·have:hasL l key=false:=by
   cases hh:hasL l key
   ·rfl
   ·exact absurd (h3.2 hh) h
  rw [this];simp;omega
def okP (k v:Bs):Bool:=keyB k && valueB v
def putC (k v:Bs):Int:=if okP k v=true then 0 else 2
def putA (l:List PRow)(k v:Bs):List PRow:=if okP k v=true then putL l k v else l
def putB (l:List PRow)(k v:Bs):Bool:=okP k v && hasL l k
def delC (k:Bs):Int:=if keyB k=true then 0 else 2
def delA (l:List PRow)(k:Bs):List PRow:=if keyB k=true then delL l k else l
def delB (l:List PRow)(k:Bs):Bool:=keyB k && hasL l k
theorem okP_len {k v:Bs}(h:okP k v=true):1<=k.length/\k.length<=64/\v.length<=256:=by
 simp [okP,keyB,valueB] at h
 omega
theorem key_len {k:Bs}(h:keyB k=true):1<=k.length/\k.length<=64:=by
 simp [keyB] at h
 omega
theorem vec_one (w:World)(v:Value)(t:Nat)(w1:World)(hb:Blk w1 w.heap.size t #[v]):Vec w1 1 (.slice (some ⟨w.heap.size,0,none⟩) 1 1) 1 [v]:=by
 refine ⟨_,1,rfl,Nat.le_refl _,by unfold maxLen;omega,by simp,rfl,fun j u hj=>?_⟩
 have hj0:j=0:=by
  have:=(List.getElem?_eq_some_iff.1 hj).1
  simp at this
  exact this
 subst hj0
 refine ⟨_,0,rfl,?_⟩
 rw [hb.cell]
 simpa using hj
theorem tb_open {w:World}{b:Nat}{l:List PRow}(h:Tb w b l):∃ao n cap,Hid (Blk w b 128 #[.bool true,.slice ao n cap]/\Rows w (.slice ao n cap) l/\l.length=n)/\n<=cap:=by
 obtain ⟨v,h1,h2⟩:=h
 obtain ⟨ao,n,cap,rfl,h3,h4,_,h5⟩:=rows_open h2
 exact ⟨ao,n,cap,⟨h1,h5.out,h3⟩,h4⟩
theorem delete19 (b:Nat)(kv:Value)(l:List PRow)(k:Bs)(hr:Rise l)(hz:l.length<=1000000)(w:World)(ht:Tb w b l)(hk:Seg w kv k) :
  Calls Tryz.prog 148 #[.pointer (some ⟨b,0,none⟩),kv] w fun e w'=>e=.returned (.tuple #[.bool (delB l k),.int .i64 (delC k)])/\Tb w' b (delA l k)/\w.grownBy w' (some b):=by
 obtain ⟨ao,n,cap,HB,_⟩:=tb_open ht
 have HT:Hid (Tb w b l/\Seg w kv k):=⟨ht,hk⟩
 have HR:Hid (Rise l/\l.length<=1000000):=⟨hr,hz⟩
 clear ht hk hr hz
 go_enter Tryz.func148,Tryz.ntmps148
 go_wp2_with (go_at_call 69;refine (there34 b true _ w HB.out.1).mono ?_;rintro e w1 ⟨rfl,hw⟩;rw [hw];clear hw)
 refine (Names.key11 kv k w HT.out.2).mono ?_
 rintro e w1 ⟨rfl,hw1⟩
 rw [hw1]
 clear hw1
 cases hok:keyB k
 ·have HO:Hid (keyB k=false):=hok
  clear hok
  go_wp2_with fail
  go_ret2
  exact ⟨by unfold delB delC;rw [HO.out];rfl,by unfold delA;rw [HO.out];exact HT.out.1,grown_refl _ _⟩
 ·have HO:Hid (keyB k=true):=hok
  obtain ⟨_,k1⟩:=key_len hok
  clear hok
  go_wp2_with fail
  refine (change54 b kv _ l [] k HR.out.1 HR.out.2 (by simp) (by omega) w HT.out.1 HT.out.2 (rows_nil w)).mono ?_
  rintro e w3 ⟨rfl,ht3,g3⟩
  have H3:Hid (Tb w3 b (delL l k)/\w.grownBy w3 (some b)):=⟨ht3,g3⟩
  clear ht3 g3
  go_wp2_with fail
  go_ret2
  exact ⟨by unfold delB delC;rw [HO.out];rfl,by unfold delA;rw [HO.out];exact H3.out.1,H3.out.2⟩
def gotL (l:List PRow)(k:Bs):Bs:=if keyB k=true/\hasL l k=true then ((l[rankL l k]?).map (·.2)).getD [] else []
def getC (l:List PRow)(k:Bs):Int:=if keyB k=true then (if hasL l k=true then 0 else 5) else 2
theorem get27 (b:Nat)(kv:Value)(l:List PRow)(k:Bs)(hr:Rise l)(hz:l.length<=1000000)(hv:∀r ∈ l,r.2.length<=256)(w:World)(ht:Tb w b l)(hk:Seg w kv k) :
  Calls Tryz.prog 145 #[.pointer (some ⟨b,0,none⟩),kv] w fun e w'=>∃x,e=.returned (.tuple #[x,.int .i64 (getC l k)])/\Disk.Own w' w.heap.size x (gotL l k)/\w.grownBy w' none:=by
 obtain ⟨ao,n,cap,HB,_⟩:=tb_open ht
 have HT:Hid (Tb w b l/\Seg w kv k):=⟨ht,hk⟩
 have HR:Hid (Rise l/\l.length<=1000000/\∀r ∈ l,r.2.length<=256):=⟨hr,hz,hv⟩
 clear ht hk hr hz hv
 go_enter Tryz.func145,Tryz.ntmps145
 go_wp2_with (go_at_call 69;refine (there34 b true _ w HB.out.1).mono ?_;rintro e w1 ⟨rfl,hw⟩;rw [hw];clear hw)
 refine (Names.key11 kv k w HT.out.2).mono ?_
 rintro e w1 ⟨rfl,hw1⟩
 rw [hw1]
 clear hw1
 cases hok:keyB k
 ·have HO:Hid (keyB k=false):=hok
  clear hok
  go_wp2_with fail
  go_ret2
  exact ⟨_,by unfold getC;rw [HO.out];rfl,by unfold gotL;rw [HO.out];exact Own.nil _ _,grown_refl _ _⟩
 ·have HO:Hid (keyB k=true):=hok
  obtain ⟨_,k1⟩:=key_len hok
  clear hok
  go_wp2_with fail
  refine (row64 b kv l k HR.out.1 HR.out.2.1 (by omega) w HT.out.1 HT.out.2).mono ?_
  rintro e w1 ⟨rfl,g1⟩
  have G1:Hid (w.grownBy w1 none):=g1
  clear g1
  cases hh:hasL l k
  ·have HH:Hid (hasL l k=false):=hh
   have he:endL l k=rankL l k:=by unfold endL;rw [hh];simp
   rw [he]
   clear he hh
   go_wp2_with fail
   go_ret2
   exact ⟨_,by unfold getC;rw [HO.out,HH.out];rfl,by unfold gotL;rw [HO.out,HH.out];exact Own.nil _ _,G1.out⟩
  ·have HH:Hid (hasL l k=true):=hh
   have he:endL l k=rankL l k+1:=by unfold endL;rw [hh];simp
   obtain ⟨hlt,hkey⟩:=has_iff.1 hh
   obtain ⟨g,off,p,kx,vx,rfl,hc,hb,hs1,hs2⟩:=rows_at (HB.out.2.1.grown G1.out) (rankL l k) hlt
   have hgot:gotL l k=l[rankL l k].2:=by unfold gotL;rw [HO.out,HH.out,List.getElem?_eq_getElem hlt];simp
   have HV:Hid (Seg w1 vx (gotL l k)/\(gotL l k).length<=256):=by rw [hgot];exact ⟨hs2,HR.out.2.2 _ (List.getElem_mem _)⟩
   have b1:=(HB.out.1.grown G1.out (by simp)).cell 1
   have b2:=hb.cell 1
   simp at b1 b2
   have i0:rankL l k<n:=by rw [<-HB.out.2.2];exact hlt
   rw [he]
   obtain ⟨rk,hrk⟩:∃n,rankL l k=n:=⟨_,rfl⟩
   rw [hrk] at i0 hc ⊢
   have i1:(0:Int)<=(rk:Int):=by omega
   have i2:(rk:Int)<(n:Int):=by omega
   have i3:¬(rk:Int)=(rk:Int)+1:=by omega
   clear he hh hlt hkey hb hs1 hs2 hgot hrk
   go_wp2_with fail
   refine (Disk.clone25 vx (gotL l k) w1 HV.out.1 (by have:=HV.out.2;omega)).mono ?_
   rintro e w2 ⟨u,rfl,ou,g2⟩
   have G2:Hid (Disk.Own w2 w.heap.size u (gotL l k)/\w.grownBy w2 none):=⟨ou.mono G1.out.size,grown_trans G1.out g2⟩
   clear ou g2
   go_wp2_with fail
   go_ret2
   exact ⟨_,by unfold getC;rw [HO.out,HH.out];rfl,G2.out⟩
end Go.Proofs.YtakmlhhapegpoaaGreat.Table
namespace Go.Proofs.YtakmlhhapegpoaaGreat.Disk
open Go.RowKit
section
variable {P:Program} {z:Nat} {H:World->Prop} {md:Region.Mode} {ops:Array Oper} {Q:Exit->Act->World->Prop}
theorem wpHold_skip {i:Nat}{oi:Oper}{l:List Oper}{d:Option Tmp}{n:Nat}{listed:Array Bool}{a:Act}{w:World}(hH:H w)(hi:ops.toList.drop i=oi :: l)(hd:oi.dst=d)
  (hs:Region.noSelect ops=true) (hz:waitsH md ops z i=true) (hsd:shutB md ops listed=true) (hf:Region.free md ops listed i=true) (hr:(Region.ready md ops listed).contains i=true)
  (hQ:∀c a w,Q (.panic c) (a.put d undef) w->Q (.panic c) a w) (hw:Region.wanted oi (yielded ops a.tmps)=false)
  (h:wpHold P z H md ops Q n (listed.setIfInBounds i true) (a.put d undef) w):wpHold P z H md ops Q (n+1) listed a w:=by
 subst hd
 exact wpHold_first (v:=undef) (get_of_dropH hi) (Region.noSelect_spec hs) hz hQ n listed a w (shutB_spec hsd) hH (Region.free_spec (get_of_dropH hi) hf) (by simpa using hr) (.inr ⟨hw,rfl⟩) h
theorem wpHold_two {i j:Nat}{oi oj:Oper}{l l':List Oper}{n:Nat}{listed:Array Bool}{a:Act}{w:World}(hi:ops.toList.drop i=oi :: l)(hj:ops.toList.drop j=oj :: l')(hr:Region.ready md ops listed=[i,j])(hwi:Region.wanted oi (yielded ops a.tmps)=true)(hwj:Region.wanted oj (yielded ops a.tmps)=true)
  (h:∀K:Act->World->Prop,Shut (∀a' w',(i≠z->H w')->wpHold P z H md ops Q n (listed.setIfInBounds i true) a' w'->K a' w')->Oper.wp P oi a w K Q)
  (h':∀K:Act->World->Prop,Shut (∀a' w',(j≠z->H w')->wpHold P z H md ops Q n (listed.setIfInBounds j true) a' w'->K a' w')->Oper.wp P oj a w K Q):wpHold P z H md ops Q (n+1) listed a w:=by
 refine ⟨fun h0=>(by rw [hr] at h0;cases h0),fun x hx=>?_⟩
 rw [hr] at hx
 simp only [List.mem_cons,List.not_mem_nil,or_false] at hx
 rcases hx with rfl | rfl
 ·refine wpOp_step (get_of_dropH hi) fun K hK=>?_
  rw [if_pos hwi]
  exact h K fun a' w' h1 h2=>hK a' w' ⟨h1,h2⟩
 ·refine wpOp_step (get_of_dropH hj) fun K hK=>?_
  rw [if_pos hwj]
  exact h' K fun a' w' h1 h2=>hK a' w' ⟨h1,h2⟩
end
end Go.Proofs.YtakmlhhapegpoaaGreat.Disk
namespace Go.Proofs.YtakmlhhapegpoaaGreat.Table
open Go.RowKit Disk
open Names (cmpL keyB valueB)
theorem copy10_no (v:Value)(l:List PRow)(w:World)(ht:Tl w v false l):Calls Tryz.prog 146 #[v] w fun e w'=>e=.returned (.pointer none)/\w'=w:=by
 have HT:Hid (Tl w v false l):=ht
 clear ht
 go_enter Tryz.func146,Tryz.ntmps146
 go_wp2_with (go_at_call 69;refine (there34g _ false l w HT.out).mono ?_;rintro e w1 ⟨rfl,hw⟩;rw [hw];clear hw)
 go_ret
 exact ⟨rfl,rfl⟩
theorem equal66 (a b:Value)(A B:Bs)(w:World)(ha:Seg w a A)(hb:Seg w b B):Calls Tryz.prog 97 #[a,b] w fun e w'=>e=.returned (.bool (decide (A=B)))/\w'=w:=by
 have s1:=seg_str ha
 have s2:=seg_str hb
 obtain ⟨ao,na,ca,rfl,_,_,_⟩:=Names.seg_open ha
 obtain ⟨bo,nb,cb,rfl,_,_,_⟩:=Names.seg_open hb
 clear ha hb
 have he:(A==B)=decide (A=B):=by
  by_cases h:A=B
  ·subst h;simp
  ·simp [h]
 go_enter Tryz.func97,Tryz.ntmps97
 go_wp2_with fail
 go_ret
 refine ⟨?_,rfl⟩
 rw [<-he]
 simp
theorem equal66b (a b:Value)(A B:Bs)(d:Bool)(w:World)(ha:Seg w a A)(hb:Seg w b B)(hd:decide (A=B)=d):Calls Tryz.prog 97 #[a,b] w fun e w'=>e=.returned (.bool d)/\w'=w:=by
 subst hd
 exact equal66 a b A B w ha hb
theorem same37 (p q:Nat)(r s:PRow)(w:World)(hp:RowAt w p r)(hq:RowAt w q s) :
  Calls Tryz.prog 72 #[.pointer (some ⟨p,0,none⟩),.pointer (some ⟨q,0,none⟩)] w fun e w'=>e=.returned (.bool (decide (r=s)))/\w'=w.drew:=by
 obtain ⟨k,v,hb,hk,hv⟩:=hp
 obtain ⟨k',v',hb',hk',hv'⟩:=hq
 obtain ⟨A,B⟩:=r
 obtain ⟨A',B'⟩:=s
 dsimp only at hk hv hk' hv'
 have HS:Hid (Seg w.drew k A/\Seg w.drew v B/\Seg w.drew k' A'/\Seg w.drew v' B'):=⟨hk.seg.grown (grown_drew _ _),hv.seg.grown (grown_drew _ _),hk'.seg.grown (grown_drew _ _),hv'.seg.grown (grown_drew _ _)⟩
 have HM:Hid (∀y:World,y=w.drew->y.cell? ⟨p,0,none⟩=some k/\y.cell? ⟨p,1,none⟩=some v/\y.cell? ⟨q,0,none⟩=some k'/\y.cell? ⟨q,1,none⟩=some v'):=fun y hy=>by
  subst hy
  exact ⟨(hb.grown (grown_drew _ none) (by simp)).cell 0,(hb.grown (grown_drew _ none) (by simp)).cell 1,(hb'.grown (grown_drew _ none) (by simp)).cell 0,(hb'.grown (grown_drew _ none) (by simp)).cell 1⟩
 obtain ⟨dB,hdB⟩:∃d,decide (B=B')=d:=⟨_,rfl⟩
 have HD:Hid (decide (B=B')=dB):=hdB
 clear hdB
 have HE:Hid (decide ((A,B)=(A',B'))=(decide (A=A') && decide (B=B'))):=by simp [Hid]
 clear hb hb' hk hv hk' hv'
 generalize hwd:w.drew=wd at HS HM ⊢
 have HW:Hid (w.drew=wd):=hwd
 clear hwd
 by_cases h:A=A'
 ·subst h
  go_enter Tryz.func72,Tryz.ntmps72
  go_wp2_with fail
  refine wp_region_noPanic ?_
  refine wp_region_hold 1000 (fun y=>y=wd) (by kernel_rfl) ?_
  rw [HW.out]
  have J:Idx [0,1,2,3,4,5,6,7]:=trivial
  iterate 8 (refine tK J (rfl) rfl rfl (fun wk hk=>by have hk2:wk=wd:=hk;clear hk;subst hk2;obtain ⟨m0,m1,m2,m3⟩:=HM.out _ rfl;go_simp;try rfl) ?_;replace J:=J.tl;try simp only [pN])
  clear J
  refine wpHold_one (i:=8) rfl (by kernel_rfl) (by rfl) (fun K hK=>?_)
  go_wp2_with (go_at_call 97;refine (equal66b k k' A A true wd HS.out.1 HS.out.2.2.1 (decide_eq_true rfl)).mono ?_)
  rintro e w2 ⟨rfl,hw2⟩
  rw [hw2]
  clear hw2
  go_wp2_with fail
  refine hK.out _ _ (fun _=>rfl) ?_
  clear hK K
  try simp only [pN]
  have J:Idx [9,10,11,12,13,14,15,16,17]:=trivial
  iterate 9 (refine tK J (rfl) rfl rfl (fun wk hk=>by have hk2:wk=wd:=hk;clear hk;subst hk2;obtain ⟨m0,m1,m2,m3⟩:=HM.out _ rfl;go_simp;try rfl) ?_;replace J:=J.tl;try simp only [pN])
  clear J
  refine wpHold_one (i:=18) rfl (by kernel_rfl) (by rfl) (fun K hK=>?_)
  go_wp2_with (go_at_call 97;refine (equal66b v v' B B' dB wd HS.out.2.1 HS.out.2.2.2 HD.out).mono ?_)
  rintro e w2 ⟨rfl,hw2⟩
  rw [hw2]
  clear hw2
  go_wp2_with fail
  refine hK.out _ _ (fun _=>rfl) ?_
  clear hK K
  try simp only [pN]
  have J:Idx [19,20]:=trivial
  iterate 2 (refine tK J (rfl) rfl rfl (fun wk hk=>by have hk2:wk=wd:=hk;clear hk;subst hk2;obtain ⟨m0,m1,m2,m3⟩:=HM.out _ rfl;go_simp;try rfl) ?_;replace J:=J.tl;try simp only [pN])
  clear J
  refine wpHold_done (by kernel_rfl) ?_
  refine (‹∀(a:Act) (w:World),Code.wp Tryz.prog _ _ a w->_› _ _ ?_)
  go_wp2_with fail
  go_ret
  exact ⟨by rw [HE.out,HD.out];simp,rfl⟩
 ·have HX:Hid (decide (A=A')=false):=by simp [Hid,h]
  go_enter Tryz.func72,Tryz.ntmps72
  go_wp2_with fail
  refine wp_region_noPanic ?_
  refine wp_region_hold 1000 (fun y=>y=wd) (by kernel_rfl) ?_
  rw [HW.out]
  have J:Idx [0,1,2,3,4,5,6,7]:=trivial
  iterate 8 (refine tK J (rfl) rfl rfl (fun wk hk=>by have hk2:wk=wd:=hk;clear hk;subst hk2;obtain ⟨m0,m1,m2,m3⟩:=HM.out _ rfl;go_simp;try rfl) ?_;replace J:=J.tl;try simp only [pN])
  clear J
  refine wpHold_one (i:=8) rfl (by kernel_rfl) (by rfl) (fun K hK=>?_)
  go_wp2_with (go_at_call 97;refine (equal66b k k' A A' false wd HS.out.1 HS.out.2.2.1 HX.out).mono ?_)
  rintro e w2 ⟨rfl,hw2⟩
  rw [hw2]
  clear hw2
  go_wp2_with fail
  refine hK.out _ _ (fun _=>rfl) ?_
  clear hK K
  try simp only [pN]
  refine tK (i:=9) (l':=[]) trivial (rfl) rfl rfl (fun wk hk=>by have hk2:wk=wd:=hk;clear hk;subst hk2;obtain ⟨m0,m1,m2,m3⟩:=HM.out _ rfl;go_simp;try rfl) ?_
  try simp only [pN]
  have J:Idx [10,11,12,13,14,15,16,17,18]:=trivial
  iterate 9 (refine sk J (rfl) rfl rfl ?_;replace J:=J.tl;try simp only [pN])
  clear J
  have J:Idx [19,20]:=trivial
  iterate 2 (refine tK J (rfl) rfl rfl (fun wk hk=>by have hk2:wk=wd:=hk;clear hk;subst hk2;obtain ⟨m0,m1,m2,m3⟩:=HM.out _ rfl;go_simp;try rfl) ?_;replace J:=J.tl;try simp only [pN])
  clear J
  refine wpHold_done (by kernel_rfl) ?_
  refine (‹∀(a:Act) (w:World),Code.wp Tryz.prog _ _ a w->_› _ _ ?_)
  go_wp2_with fail
  go_ret
  exact ⟨by rw [HE.out,HX.out];simp,rfl⟩
theorem same37b (p q:Nat)(r s:PRow)(d:Bool)(w:World)(hp:RowAt w p r)(hq:RowAt w q s)(hd:decide (r=s)=d) :
  Calls Tryz.prog 72 #[.pointer (some ⟨p,0,none⟩),.pointer (some ⟨q,0,none⟩)] w fun e w'=>e=.returned (.bool d)/\∃m,w'=w.drewN m:=by
 subst hd
 refine (same37 p q r s w hp hq).mono ?_
 rintro e w1 ⟨rfl,rfl⟩
 exact ⟨rfl,1,rfl⟩
theorem equal36 (a b:Value)(A B:List PRow)(w:World)(ha:Rows w a A)(hb:Rows w b B) :
  Calls Tryz.prog 70 #[a,b,.func (.func 72) #[] #[]] w fun e w'=>e=.returned (.bool (decide (A=B)))/\∃m,w'=w.drewN m:=by
 obtain ⟨ao,n,ca,rfl,hna,la,la2,HA⟩:=rows_open ha
 obtain ⟨bo,m,cb,rfl,hnb,lb,lb2,HB⟩:=rows_open hb
 have HN:Hid (A.length=n/\B.length=m):=⟨hna,hnb⟩
 obtain ⟨D,hD⟩:∃D,decide (A=B)=D:=⟨_,rfl⟩
 have HD:Hid (decide (A=B)=D):=hD
 rw [hD]
 clear ha hb hna hnb hD
 by_cases hnm:n=m
 ·subst hnm
  go_enter Tryz.func70,Tryz.ntmps70
  go_wp2_with fail
  go_loopw [17] (fun i wr=>∃(k q:Nat),k<=n/\i=.int .i64 (k:Int)/\wr=w.drewN q/\(∀j (h1:j<A.length) (h2:j<B.length),j<k->A[j]=B[j])) (fun i _=>n-(intOf i).toNat)
  case atStart=>exact ⟨0,0,Nat.zero_le _,rfl,rfl,fun j _ _ h=>absurd h (by omega)⟩
  case round =>
   obtain ⟨k,q,hk,rfl,rfl,hall⟩:=hrel
   have HL:Hid (∀j (h1:j<A.length) (h2:j<B.length),j<k->A[j]=B[j]):=hall
   clear hall
   rcases Nat.lt_or_ge k n with hlt | hge
   ·have ka:k<A.length:=by rw [HN.out.1];exact hlt
    have kb:k<B.length:=by rw [HN.out.2];exact hlt
    obtain ⟨b1,o1,p1,rfl,c1,d1⟩:=rows_row (HA.out.grown (grown_drewN _ q none)) k ka
    obtain ⟨b2,o2,p2,rfl,c2,d2⟩:=rows_row (HB.out.grown (grown_drewN _ q none)) k kb
    have HR:Hid (RowAt (w.drewN q) p1 A[k]/\RowAt (w.drewN q) p2 B[k]):=⟨d1,d2⟩
    obtain ⟨dk,hdk⟩:∃d,decide (A[k]=B[k])=d:=⟨_,rfl⟩
    have HK:Hid (decide (A[k]=B[k])=dk):=hdk
    have i0:(0:Int)<=(k:Int):=by omega
    have i1:(k:Int)<(n:Int):=by omega
    clear d1 d2 hdk
    go_wp2_with fail
    refine (same37b p1 p2 A[k] B[k] dk _ HR.out.1 HR.out.2 HK.out).mono ?_
    rintro e w2 ⟨rfl,q2,hw2⟩
    rw [hw2]
    clear hw2
    cases dk with
    | true =>
     go_wp2_with fail
     go_roundw
     case rel =>
      refine ⟨k+1,_,by omega,by go_num,rfl,fun j h1 h2 h3=>?_⟩
      rcases Nat.lt_or_ge j k with h4 | h4
      ·exact HL.out j h1 h2 h4
      ·have:j=k:=by omega
       subst this
       exact of_decide_eq_true HK.out
     case measure=>simp [intOf];omega
    | false =>
     go_wp2_with fail
     go_ret
     refine ⟨?_,_,rfl⟩
     rw [<-HD.out]
     have hne:A≠B:=fun e=>by
      have:=HK.out
      subst e
      simp at this
     simp [hne]
   ·have hkn:k=n:=by omega
    subst hkn
    go_wp2_with fail
    go_ret
    refine ⟨?_,_,rfl⟩
    have he:A=B:=List.ext_getElem (by rw [HN.out.1,HN.out.2]) fun j h1 h2=>HL.out j h1 h2 (by rw [HN.out.1] at h1;exact h1)
    rw [<-HD.out]
    simp [he]
 ·have hi:¬(n:Int)=(m:Int):=by omega
  go_enter Tryz.func70,Tryz.ntmps70
  go_wp2_with fail
  go_ret
  have hne:A≠B:=fun e=>by
   have:=HN.out
   subst e
   omega
  exact ⟨by rw [<-HD.out];simp [hne],0,rfl⟩
theorem same11 (a b:Value)(i j:Bool)(A B:List PRow)(w:World)(ha:Tl w a i A)(hb:Tl w b j B) :
  Calls Tryz.prog 43 #[a,b] w fun e w'=>e=.returned (.bool (decide (i=j) && decide (A=B)))/\∃m,w'=w.drewN m:=by
 have HT:Hid (Tl w a i A/\Tl w b j B):=⟨ha,hb⟩
 obtain ⟨D,hD⟩:∃D,(decide (i=j) && decide (A=B))=D:=⟨_,rfl⟩
 have HD:Hid ((decide (i=j) && decide (A=B))=D):=hD
 rw [hD]
 clear ha hb hD
 by_cases h:i=j
 ·subst h
  go_enter Tryz.func43,Tryz.ntmps43
  go_wp2_with fail
  refine (there34g a i A w HT.out.1).mono ?_
  rintro e w1 ⟨rfl,hw⟩
  rw [hw]
  clear hw
  go_wp2_with fail
  refine (there34g b i B w HT.out.2).mono ?_
  rintro e w1 ⟨rfl,hw⟩
  rw [hw]
  clear hw
  go_wp2_with fail
  refine (list35g a i A w HT.out.1).mono ?_
  rintro e w1 ⟨f,n,rfl,hn,hr,hw⟩
  rw [hw]
  have HA:Hid (Rows w (.slice f n n) A):=hr
  clear hw hr hn
  go_wp2_with fail
  refine (list35g b i B w HT.out.2).mono ?_
  rintro e w1 ⟨f2,n2,rfl,hn,hr,hw⟩
  rw [hw]
  have HB:Hid (Rows w (.slice f2 n2 n2) B):=hr
  clear hw hr hn
  go_wp2_with fail
  refine (equal36 _ _ A B w HA.out HB.out).mono ?_
  rintro e w1 ⟨rfl,q,hw⟩
  rw [hw]
  clear hw
  go_wp2_with fail
  go_ret
  exact ⟨by rw [<-HD.out];simp,_,rfl⟩
 ·have hd:decide (i=j)=false:=by simp [h]
  go_enter Tryz.func43,Tryz.ntmps43
  go_wp2_with fail
  refine (there34g a i A w HT.out.1).mono ?_
  rintro e w1 ⟨rfl,hw⟩
  rw [hw]
  clear hw
  go_wp2_with fail
  refine (there34g b j B w HT.out.2).mono ?_
  rintro e w1 ⟨rfl,hw⟩
  rw [hw]
  clear hw
  have HX:Hid (D=false):=by rw [Hid,<-HD.out,hd];rfl
  rcases i with _ | _ <;> rcases j with _ | _
  ·exact absurd rfl h
  ·go_wp2_with fail
   go_ret
   exact ⟨by rw [HX.out];rfl,0,rfl⟩
  ·go_wp2_with fail
   go_ret
   exact ⟨by rw [HX.out];rfl,0,rfl⟩
  ·exact absurd rfl h
def Good (l:List PRow):Prop:=Rise l/\(∀r ∈ l,okP r.1 r.2=true)/\l.length<=1000000
def sizeL (l:List PRow):Nat:=(l.map fun r=>r.1.length+r.2.length).sum
theorem size_le {l:List PRow}(h:∀r ∈ l,okP r.1 r.2=true):sizeL l<=l.length*320:=by
 induction l with
 | nil=>simp [sizeL]
 | cons r l ih =>
  have h1:=okP_len (h r (by simp))
  have h2:=ih fun r hr=>h r (by simp [hr])
  simp [sizeL] at h2 ⊢
  omega
theorem size_take {l:List PRow}{k:Nat}(hk:k<l.length):sizeL (l.take (k+1))=sizeL (l.take k)+(l[k].1.length+l[k].2.length):=by
 unfold sizeL
 rw [List.take_add_one,List.getElem?_eq_getElem hk,List.map_append,List.sum_append]
 simp
theorem ok_take {l:List PRow}(h:∀r ∈ l,okP r.1 r.2=true)(k:Nat):∀r ∈ l.take k,okP r.1 r.2=true:=fun r hr=>h r (List.mem_of_mem_take hr)
theorem size30 (tv:Value)(is:Bool)(l:List PRow)(hg:Good l)(w:World)(ht:Tl w tv is l) :
  Calls Tryz.prog 51 #[tv] w fun e w'=>e=.returned (.int .i64 (sizeL l:Nat))/\∃m,w'=w.drewN m:=by
 have HT:Hid (Tl w tv is l):=ht
 have HG:Hid (Good l):=hg
 clear ht hg
 go_enter Tryz.func51,Tryz.ntmps51
 go_wp2_with fail
 refine (list35g tv is l w HT.out).mono ?_
 rintro e w1 ⟨f,n,rfl,hn,hr,hw⟩
 rw [hw]
 have HR:Hid (Rows w (.slice f n n) l/\n=l.length):=⟨hr,hn⟩
 have hn6:n<=1000000:=by rw [hn];exact HG.out.2.2
 clear hw hr hn
 go_wp2_with fail
 go_loopw [3,9] (fun x i wr=>∃(k q s:Nat),k<=n/\i=.int .i64 (k:Int)/\x=.int .i64 (s:Int)/\s=sizeL (l.take k)/\wr=w.drewN q) (fun _ i _=>n-(intOf i).toNat)
 case atStart=>exact ⟨0,0,0,Nat.zero_le _,rfl,rfl,by simp [sizeL],rfl⟩
 case round =>
  obtain ⟨k,q,s,hk,rfl,rfl,hs,rfl⟩:=hrel
  have HS:Hid (s=sizeL (l.take k)):=hs
  rcases Nat.lt_or_ge k n with hlt | hge
  ·have ka:k<l.length:=by rw [<-HR.out.2];exact hlt
   obtain ⟨b1,o1,p1,x1,y1,rfl,c1,d1,s1,t1⟩:=rows_at (HR.out.1.grown (grown_drewN _ q none)) k ka
   obtain ⟨ax,nx,cx,rfl,hx,_,_⟩:=Names.seg_open s1
   obtain ⟨ay,ny,cy,rfl,hy,_,_⟩:=Names.seg_open t1
   have e0:=d1.cell 0
   have e1:=d1.cell 1
   simp at e0 e1
   have hb:=okP_len (HG.out.2.1 _ (List.getElem_mem ka))
   have hb2:=size_le (ok_take HG.out.2.1 k)
   have hb3:=HG.out.2.2
   rw [List.length_take] at hb2
   rw [hx,hy] at hb
   rw [<-hs] at hb2
   have i0:(0:Int)<=(k:Int):=by omega
   have i1:(k:Int)<(n:Int):=by omega
   have HX:Hid (sizeL (l.take (k+1))=s+(nx+ny)):=by rw [Hid,size_take ka,<-hs,hx,hy]
   have j0:s<=320000000:=by
    have:min k l.length<=1000000:=by omega
    omega
   have j1:nx<=64:=by omega
   have j2:ny<=256:=by omega
   clear d1 s1 t1 hx hy hb hb2 hb3 hs
   go_wp2_with fail
   go_quiet (fail)
   go_wp2_with fail
   go_roundw
   case rel=>exact ⟨k+1,_,s+(nx+ny),by omega,by go_num,by go_num,HX.out.symm,rfl⟩
   case measure=>simp [intOf];omega
  ·have hkn:k=n:=by omega
   subst hkn
   go_wp2_with fail
   go_ret
   have e:l.take k=l:=List.take_of_length_le (by have:=HR.out.2;omega)
   exact ⟨by rw [HS.out,e];rfl,_,rfl⟩
def rcells:List (Value × Value)->List Value
 | []=>[]
 | p :: l=>p.1 :: p.2 :: rcells l
theorem rcells_append:∀ks ls,rcells (ks ++ ls)=rcells ks ++ rcells ls
 | [],_=>rfl
 | p :: l,ls=>by simp [rcells,rcells_append l ls]
theorem rcells_at:∀(ks:List (Value × Value)) (j:Nat) (h:j<ks.length),(rcells ks)[j*2]? = some ks[j].1/\(rcells ks)[j*2+1]? = some ks[j].2
 | p :: l,0,_=>⟨rfl,rfl⟩
 | p :: l,j+1,h=>by
  have:=rcells_at l j (by simpa using h)
  rw [show (j+1)*2=j*2+1+1 by omega]
  simpa [rcells] using this
theorem rcells_one {ks:List (Value × Value)}(h:∀p ∈ ks,p.1.oneCell'=true/\p.2.oneCell'=true):∀u ∈ rcells ks,u.oneCell'=true:=by
 induction ks with
 | nil=>simp [rcells]
 | cons p l ih =>
  intro u hu
  simp [rcells] at hu
  rcases hu with rfl | rfl | hu
  ·exact (h p (by simp)).1
  ·exact (h p (by simp)).2
  ·exact ih (fun q hq=>h q (by simp [hq])) u hu
def RSeg (w:World)(ks:List (Value × Value))(l:List PRow):Prop:=ks.length=l.length/\∀j (h:j<ks.length) (h':j<l.length),Seg w ks[j].1 l[j].1/\Seg w ks[j].2 l[j].2
theorem RSeg.grown {w w':World}{ks:List (Value × Value)}{l:List PRow}(h:RSeg w ks l)(hg:w.grownBy w' none):RSeg w' ks l:=⟨h.1,fun j a b=>⟨(h.2 j a b).1.grown hg,(h.2 j a b).2.grown hg⟩⟩
theorem RSeg.snoc {w:World}{ks:List (Value × Value)}{l:List PRow}(h:RSeg w ks l){x y:Value}{r:PRow}(hx:Seg w x r.1)(hy:Seg w y r.2):RSeg w (ks ++ [(x,y)]) (l ++ [r]):=by
 refine ⟨by simp [h.1],fun j a b=>?_⟩
 have:=h.1
 rw [List.getElem_append,List.getElem_append]
 split <;> split
 ·exact h.2 _ _ _
 ·omega
 ·omega
 ·simp
  exact ⟨hx,hy⟩
def Rws (w:World)(v:Value)(l:List PRow):Prop:=∃ks,RSeg w ks l/\Vec w 2 v l.length (rcells ks)
theorem Rws.grown {w w':World}{v:Value}{l:List PRow}(h:Rws w v l)(hg:w.grownBy w' none):Rws w' v l:=by
 obtain ⟨ks,h1,h2⟩:=h
 exact ⟨ks,h1.grown hg,h2.grown hg⟩
theorem rws_open {w:World}{v:Value}{l:List PRow}(h:Rws w v l):∃ao n cap,v=.slice ao n cap/\l.length=n/\n<=cap/\cap<=9223372036854775807/\Hid (Rws w (.slice ao n cap) l):=by
 have h':=h
 obtain ⟨ks,_,ao,cap,rfl,h2,h3,_⟩:=h'
 unfold maxLen at h3
 exact ⟨ao,_,cap,rfl,rfl,h2,by omega,h⟩
theorem rws_at {w:World}{ao:Option Addr}{n cap:Nat}{l:List PRow}(h:Rws w (.slice ao n cap) l)(j:Nat)(hj:j<l.length):∃b off x y,ao=some ⟨b,off,none⟩/\w.cell? ⟨b,off+j*2,none⟩=some x/\w.cell? ⟨b,off+j*2+1,none⟩=some y/\Seg w x l[j].1/\Seg w y l[j].2:=by
 obtain ⟨ks,h1,h2⟩:=h
 have e1:=h1.1
 obtain ⟨ao',cap',e,_,_,_,_,h6⟩:=h2
 simp at e
 obtain ⟨rfl,rfl,rfl⟩:=e
 have hk:j<ks.length:=by omega
 have hc:=rcells_at ks j hk
 obtain ⟨b,off,e,c0⟩:=h6 _ _ hc.1
 obtain ⟨b',off',e',c1⟩:=h6 _ _ hc.2
 rw [e] at e'
 simp at e'
 obtain ⟨rfl,rfl⟩:=e'
 exact ⟨b,off,_,_,e,c0,by rw [Nat.add_assoc];exact c1,(h1.2 j hk hj).1,(h1.2 j hk hj).2⟩
theorem rws_nil (w:World):Rws w (.slice none 0 0) []:=⟨[],⟨rfl,fun j h=>absurd h (by simp)⟩,vec_nil _ _⟩
def ROwn (w:World)(B:Nat)(ks:List (Value × Value))(l:List PRow):Prop:=ks.length=l.length/\∀j (h:j<ks.length) (h':j<l.length),Disk.Own w B ks[j].1 l[j].1/\Disk.Own w B ks[j].2 l[j].2
theorem ROwn.same {w w':World}{B:Nat}{ks:List (Value × Value)}{l:List PRow}(h:ROwn w B ks l)(hs:∀k,(∃c,Blk w k 5 c)->w'.heap[k]? = w.heap[k]?):ROwn w' B ks l:=by
 refine ⟨h.1,fun j a b=>?_⟩
 have:=h.2 j a b
 constructor
 ·refine this.1.same fun k hk=>hs k ?_
  rcases this.1.2 with ⟨e,_⟩ | ⟨g,cap,cur,e,_,hg,_⟩
  ·rw [e] at hk;simp [Value.ownBlock] at hk
  ·rw [e] at hk;simp [Value.ownBlock] at hk;subst hk;exact ⟨cur,hg⟩
 ·refine this.2.same fun k hk=>hs k ?_
  rcases this.2.2 with ⟨e,_⟩ | ⟨g,cap,cur,e,_,hg,_⟩
  ·rw [e] at hk;simp [Value.ownBlock] at hk
  ·rw [e] at hk;simp [Value.ownBlock] at hk;subst hk;exact ⟨cur,hg⟩
theorem ROwn.grown {w w':World}{B:Nat}{ks:List (Value × Value)}{l:List PRow}(h:ROwn w B ks l)(hg:w.grownBy w' none):ROwn w' B ks l:=⟨h.1,fun j a b=>⟨(h.2 j a b).1.grown hg,(h.2 j a b).2.grown hg⟩⟩
theorem ROwn.mono {w:World}{B B':Nat}{ks:List (Value × Value)}{l:List PRow}(h:ROwn w B ks l)(hB:B'<=B):ROwn w B' ks l:=⟨h.1,fun j a b=>⟨(h.2 j a b).1.mono hB,(h.2 j a b).2.mono hB⟩⟩
theorem ROwn.seg {w:World}{B:Nat}{ks:List (Value × Value)}{l:List PRow}(h:ROwn w B ks l):RSeg w ks l:=⟨h.1,fun j a b=>⟨(h.2 j a b).1.seg,(h.2 j a b).2.seg⟩⟩
theorem ROwn.snoc {w:World}{B:Nat}{ks:List (Value × Value)}{l:List PRow}(h:ROwn w B ks l){x y:Value}{r:PRow}(hx:Disk.Own w B x r.1)(hy:Disk.Own w B y r.2):ROwn w B (ks ++ [(x,y)]) (l ++ [r]):=by
 refine ⟨by simp [h.1],fun j a b=>?_⟩
 have:=h.1
 rw [List.getElem_append,List.getElem_append]
 split <;> split
 ·exact h.2 _ _ _
 ·omega
 ·omega
 ·simp
  exact ⟨hx,hy⟩
theorem ROwn.one {w:World}{B:Nat}{ks:List (Value × Value)}{l:List PRow}(h:ROwn w B ks l):∀u ∈ rcells ks,u.oneCell'=true:=by
 refine rcells_one fun p hp=>?_
 obtain ⟨j,hj,rfl⟩:=List.mem_iff_getElem.1 hp
 have:=h.2 j hj (by rw [<-h.1];exact hj)
 obtain ⟨a,c,e⟩:=this.1.seg.shape
 obtain ⟨a',c',e'⟩:=this.2.seg.shape
 rw [e,e']
 exact ⟨rfl,rfl⟩
def TRws (w:World)(B:Nat)(v:Value)(l:List PRow):Prop:=∃ks,w.ownsRow B 86 2 v l.length (rcells ks)/\ROwn w B ks l
theorem TRws.grown {w w':World}{B:Nat}{v:Value}{l:List PRow}(h:TRws w B v l)(hg:w.grownBy w' none):TRws w' B v l:=by
 obtain ⟨ks,h1,h2⟩:=h
 exact ⟨ks,World.ownsRow.kept h1 hg (by cases v.ownBlock <;> simp),h2.grown hg⟩
theorem TRws.rws {w:World}{B:Nat}{v:Value}{l:List PRow}(h:TRws w B v l):Rws w v l:=by
 obtain ⟨ks,h1,h2⟩:=h
 exact ⟨ks,h2.seg,vec_of_owns h1⟩
theorem owns_mono {w:World}{B B' e size n:Nat}{v:Value}{xs:List Value}(h:w.ownsRow B e size v n xs)(hB:B'<=B):w.ownsRow B' e size v n xs:=by
 refine ⟨h.1,?_⟩
 rcases h.2 with h2 | ⟨g,cap,cur,h1,hb,h3⟩
 ·exact .inl h2
 ·exact .inr ⟨g,cap,cur,h1,by omega,h3⟩
theorem TRws.mono {w:World}{B B':Nat}{v:Value}{l:List PRow}(h:TRws w B v l)(hB:B'<=B):TRws w B' v l:=by
 obtain ⟨ks,h1,h2⟩:=h
 exact ⟨ks,owns_mono h1 hB,h2.mono hB⟩
theorem TRws.nil (w:World)(B:Nat):TRws w B (.slice none 0 0) []:=⟨[],World.ownsRow_nil _ _ _ _,rfl,fun j h=>absurd h (by simp)⟩
theorem Tryz.info86:(Tryz.prog.info? 86).map (fun i=>(i.zero,i.size,i.bytes))=some (some (.agg #[.slice none 0 0,.slice none 0 0]),2,48):=by kernel_rfl
theorem ut22':Tryz.prog.underlying 70=some (.slice 86):=by kernel_rfl
theorem vec_two (w:World)(x y:Value)(w1:World)(hb:Blk w1 w.heap.size 86 #[x,y]):Vec w1 2 (.slice (some ⟨w.heap.size,0,none⟩) 1 1) 1 [x,y]:=by
 refine ⟨_,1,rfl,Nat.le_refl _,by unfold maxLen;omega,by simp,rfl,fun j u hj=>⟨_,0,rfl,?_⟩⟩
 rw [hb.cell,Nat.zero_add]
 simpa using hj
theorem appR_wp {o:Oper}{a:Act}{K:Act->World->Prop}{Q:Exit->Act->World->Prop}(w:World)(s x:Operand)(ho:o.op=.call { callee:=.builtin .append,args:=#[s,x],argTypes:=#[70,70] })
  (B:Nat) (v:Value) (l:List PRow) (u:Value) (kx ky:Value) (r:PRow) (hs:a.eval s=v) (hx:a.eval x=u) (hv:TRws w B v l) (hu:Vec w 2 u 1 [kx,ky]) (h1:Disk.Own w B kx r.1) (h2:Disk.Own w B ky r.2) (hb:l.length<=1000000) (hB:B<=w.heap.size)
  (h:∀ao cap w',TRws w' B (.slice ao (l.length+1) cap) (l ++ [r])->(∃q,w.grownBy w' q/\∀g,q=some g->B<=g)->K (a.put o.dst (.slice ao (l.length+1) cap)) w'):o.wp Tryz.prog a w K Q:=by
 obtain ⟨ks,h3,h4⟩:=hv
 have h5:=h4.snoc h1 h2
 obtain ⟨i0,hi,hz0,hz1,hz2⟩:=info_parts Tryz.info86
 obtain ⟨ad,c,eu⟩:∃ad c,u=.slice (some ad) 1 c:=by
  obtain ⟨ao,c,e,k1,_,k3,_⟩:=hu
  cases ao with
  | none=>have:=k3 rfl;omega
  | some ad=>exact ⟨ad,c,e⟩
 subst eu
 refine wp_append_lies w s x 70 ho B 86 i0 _ 2 48 ut22' hi hz0 hz1 hz2 rfl (by decide) v l.length (rcells ks) hs h3 ad 1 c [kx,ky] hx rfl hu.news ?_ (by decide) (by unfold maxLen;omega) (by omega) hB w.heap.size rfl ?_
 ·intro y hy
  have:=h5.one y (by rw [rcells_append];simp [rcells] at hy ⊢;exact .inr hy)
  exact this
 ·intro g cap w' r1 r2 r3 _
  refine h _ cap w' ⟨ks ++ [(kx,ky)],?_,?_⟩ ⟨_,r2,fun q hq=>(World.ownsRow.lt h3 q hq).1⟩
  ·rw [rcells_append,List.length_append]
   exact r1
  ·refine h5.same fun k ⟨c,hk⟩=>r2.block k hk.lt ?_
   intro e
   rcases h3.2 with ⟨e2,_⟩ | ⟨g2,cap2,cur2,e2,_,hg2,_⟩
   ·rw [e2] at e;simp [Value.ownBlock] at e
   ·rw [e2] at e
    simp [Value.ownBlock] at e
    subst e
    unfold Blk at hk
    rw [hg2] at hk
    simp at hk
theorem run_max00 (ts:Array TypeId)(t:TypeId)(n:Int)(w:World):(Builtin.max_ ts t #[.int .i64 n,.int .i64 0]).run Tryz.prog w=.ok (.int .i64 (n.toNat:Nat)) w:=by
 by_cases h:n<=0
 ·have e:(n.toNat:Int)=0:=by omega
  rw [e]
  simp [Builtin.max_,Builtin.max2]
  try omega
 ·have e:(n.toNat:Int)=n:=by omega
  rw [e]
  simp [Builtin.max_,Builtin.max2]
  try omega
def scanL (l:List PRow)(F T:Bs)(most:Int):List PRow:=(l.drop (rankL l F)).take (min most.toNat (spanE l F T-rankL l F))
theorem scan24 (tv:Value)(is:Bool)(f t:Value)(most:Int)(l:List PRow)(F T:Bs)(hg:Good l)(w:World)(ht:Tl w tv is l)(hf:Seg w f F)(hT:Seg w t T) :
  Calls Tryz.prog 149 #[tv,f,t,.int .i64 most] w fun e w'=>∃v,e=.returned v/\TRws w' w.heap.size v (scanL l F T most)/\w.grownBy w' none:=by
 have HT:Hid (Tl w tv is l/\Seg w f F/\Seg w t T):=⟨ht,hf,hT⟩
 have HG:Hid (Good l):=hg
 have q1:=span_ge l F T
 have q2:=span_le l F T
 obtain ⟨rf,hrf⟩:∃n,rankL l F=n:=⟨_,rfl⟩
 obtain ⟨sp,hsp⟩:∃n,spanE l F T=n:=⟨_,rfl⟩
 have HQ:Hid (rankL l F=rf/\spanE l F T=sp):=⟨hrf,hsp⟩
 rw [hrf] at q1
 rw [hsp] at q1 q2
 clear ht hf hT hg hrf hsp
 go_enter Tryz.func149,Tryz.ntmps149
 go_wp2_with fail
 refine (span50 tv is f t l F T HG.out.1 HG.out.2.2 w HT.out.1 HT.out.2.1 HT.out.2.2).mono ?_
 rintro e w1 ⟨rfl,g1⟩
 rw [HQ.out.1,HQ.out.2]
 have G1:Hid (w.grownBy w1 none):=g1
 clear g1
 obtain ⟨mt,hmt⟩:∃n,most.toNat=n:=⟨_,rfl⟩
 obtain ⟨d,hd⟩:∃d,sp-rf=d:=⟨_,rfl⟩
 obtain ⟨en,hen⟩:∃e,rf+min mt d=e:=⟨_,rfl⟩
 have hl6:l.length<=1000000:=HG.out.2.2
 have hsub:(sp:Int)-(rf:Int)=(d:Int):=by omega
 have hmx:=fun (ts:Array TypeId) (t:TypeId) (w:World)=>run_max00 ts t most w
 rw [hmt] at hmx
 have hmn:=fun (ts:Array TypeId) (t:TypeId) (w:World)=>Names.run_minn ts t mt d w
 have hadd:(rf:Int)+((min mt d:Nat):Int)=(en:Int):=by omega
 have e1:rf<=en:=by omega
 have e2:en<=l.length:=by omega
 have HE:Hid (most.toNat=mt/\sp-rf=d/\rf+min mt d=en):=⟨hmt,hd,hen⟩
 clear hmt hen
 obtain ⟨mn,hmn2⟩:∃m,min mt d=m:=⟨_,rfl⟩
 rw [hmn2] at hmn hadd
 have hmb:mn<=1000000:=by omega
 clear hmn2 hd
 go_wp2_with fail
 refine (list35g tv is l w1 (HT.out.1.grown G1.out)).mono ?_
 rintro e w2 ⟨fl,n,rfl,hn,hr,hw⟩
 rw [hw]
 obtain ⟨sv,hsv⟩:∃v,sliced fl rf en n 1=v:=⟨_,rfl⟩
 have hsl:∀wk,(Instr.slice 123 (.slice fl n n) (some (.int .i64 (rf:Int))) (some (.int .i64 (en:Int))) none).run Tryz.prog wk=.ok sv wk:=fun wk=>by rw [<-hsv];exact run_piece 123 1 ut66 size66 fl n n rf en e1 (by omega) wk
 have hpr:=rows_piece hr rf en e1 (by omega)
 rw [hsv] at hpr
 obtain ⟨M,hM⟩:∃M,(l.drop rf).take (en-rf)=M:=⟨_,rfl⟩
 rw [hM] at hpr
 have HM:Hid (scanL l F T most=M/\(∀r ∈ M,okP r.1 r.2=true)/\M.length<=1000000):=by
  refine ⟨?_,?_,?_⟩
  ·unfold scanL
   rw [HQ.out.1,HQ.out.2,HE.out.1,HE.out.2.1,<-hM]
   congr 1
   have:=HE.out.2.2
   omega
  ·intro r hr
   rw [<-hM] at hr
   exact HG.out.2.1 r (List.mem_of_mem_drop (List.mem_of_mem_take hr))
  ·rw [<-hM,List.length_take,List.length_drop]
   omega
 obtain ⟨sa,m,sc,hsv2,hm,_,_,HS⟩:=rows_open hpr
 have HL:Hid (M.length=m):=hm
 have hm6:m<=1000000:=by have:=HM.out.2.2;omega
 rw [hsv2] at hsl
 clear hw hr hn hsv hpr hM hm hsv2
 go_wp2_with fail
 clear hsl hmx hmn hadd hsub
 go_loopw [11,35] (fun v i wr=>∃(k:Nat),k<=m/\i=.int .i64 (k:Int)/\TRws wr w1.heap.size v (M.take k)/\w1.grownBy wr none) (fun _ i _=>m-(intOf i).toNat)
 case atStart=>exact ⟨0,Nat.zero_le _,rfl,TRws.nil _ _,grown_refl _ _⟩
 case round =>
  obtain ⟨k,hk,rfl,htr,hgr⟩:=hrel
  have HR:Hid (TRws wr w1.heap.size u11 (M.take k)/\w1.grownBy wr none):=⟨htr,hgr⟩
  clear htr hgr
  rcases Nat.lt_or_ge k m with hlt | hge
  ·have ka:k<M.length:=by rw [HL.out];exact hlt
   obtain ⟨b1,o1,p1,x1,y1,rfl,c1,d1,s1,t1⟩:=rows_at HS.out k ka
   have hok:=okP_len (HM.out.2.1 _ (List.getElem_mem ka))
   have HC:Hid (∀y:World,w1.grownBy y none->y.cell? ⟨p1,0,none⟩=some x1/\y.cell? ⟨p1,1,none⟩=some y1):=fun y hy=>⟨(d1.grown hy (by simp)).cell 0,(d1.grown hy (by simp)).cell 1⟩
   have c1':wr.cell? ⟨b1,o1+k,none⟩=some (.pointer (some ⟨p1,0,none⟩)):=HR.out.2.cell c1 (by simp)
   have HX:Hid (Seg w1 x1 M[k].1/\Seg w1 y1 M[k].2/\M[k].1.length<=64/\M[k].2.length<=256):=⟨s1,t1,hok.2⟩
   have i0:(0:Int)<=(k:Int):=by omega
   have i1:(k:Int)<(m:Int):=by omega
   have htk:(M.take k).length=k:=by rw [List.length_take];omega
   obtain ⟨L,hL⟩:∃L,M.take k=L:=⟨_,rfl⟩
   have HK:Hid (M.take k=L/\L.length=k/\M.take (k+1)=L ++ [M[k]]):=⟨hL,by rw [<-hL];exact htk,by rw [<-hL,List.take_add_one,List.getElem?_eq_getElem ka];rfl⟩
   have HR2:Hid (TRws wr w1.heap.size u11 L):=by rw [<-hL];exact HR.out.1
   obtain ⟨r,hr⟩:∃r,M[k]=r:=⟨_,rfl⟩
   rw [hr] at HX HK
   clear d1 s1 t1 c1 hok htk hL hr
   go_wp2_with fail
   refine wp_region_noPanic ?_
   refine wp_region_hold 1000 (fun y=>w1.grownBy y none) (by kernel_rfl) ?_
   have G0:Hid (wr.grownBy wr.drew none):=grown_drew _ _
   generalize wr.drew=wd at G0 ⊢
   have J:Idx [0,1,2,3,4,5,6,7,8]:=trivial
   iterate 9 (refine tK J ((grown_trans HR.out.2 G0.out)) rfl rfl (fun wk hk=>by obtain ⟨m0,m1⟩:=HC.out wk hk;go_simp;try rfl) ?_;replace J:=J.tl;try simp only [pN])
   clear J
   refine wpHold_one (i:=9) rfl (by kernel_rfl) (by rfl) (fun K hK=>?_)
   go_wp2_with (go_at_call 75;refine (ownRow55 x1 y1 r.1 r.2 wd (HX.out.1.grown (grown_trans HR.out.2 G0.out)) (HX.out.2.1.grown (grown_trans HR.out.2 G0.out)) (by have:=HX.out.2.2.1;omega) (by have:=HX.out.2.2.2;omega)).mono ?_)
   rintro e w2 ⟨p2,rfl,hp2,⟨x2,y2,hb2,ox2,oy2,_⟩,g2⟩
   obtain ⟨ax,cx,ex⟩:=ox2.seg.shape
   obtain ⟨ay,cy,ey⟩:=oy2.seg.shape
   obtain ⟨nx,hnx⟩:∃nx,r.1.length=nx:=⟨_,rfl⟩
   obtain ⟨ny,hny⟩:∃ny,r.2.length=ny:=⟨_,rfl⟩
   rw [hnx] at ex
   rw [hny] at ey
   subst ex ey
   have G2:Hid (wr.grownBy w2 none/\Blk w2 p2 86 #[.slice ax nx cx,.slice ay ny cy]/\Disk.Own w2 wr.heap.size (.slice ax nx cx) r.1/\Disk.Own w2 wr.heap.size (.slice ay ny cy) r.2):=⟨grown_trans G0.out g2,hb2,ox2.mono G0.out.size,oy2.mono G0.out.size⟩
   clear g2 hb2 ox2 oy2 hp2 hnx hny
   go_wp2_with fail
   refine hK.out _ _ (fun _=>grown_trans HR.out.2 G2.out.1) ?_
   clear hK K
   try simp only [pN]
   refine tK (i:=10) (l':=[]) trivial ((grown_trans HR.out.2 G2.out.1)) rfl rfl (fun wk hk=>by obtain ⟨m0,m1⟩:=HC.out wk hk;go_simp;try rfl) ?_
   try simp only [pN]
   refine wpHold_one (i:=11) rfl (by kernel_rfl) (by rfl) (fun K hK=>?_)
   have q0:=G2.out.2.1.cell 0
   have q1:=G2.out.2.1.cell 1
   simp at q0 q1
   go_wp2_with fail
   refine hK.out _ _ (fun _=>grown_trans HR.out.2 G2.out.1) ?_
   clear hK K
   try simp only [pN]
   refine wpHold_one (i:=12) rfl (by kernel_rfl) (by rfl) (fun K hK=>?_)
   go_wp2_with fail
   obtain ⟨w3,hw3,H3⟩:=al w2 #[.slice ax nx cx,.slice ay ny cy] 86
   rw [hw3]
   clear hw3
   have G3:Hid (wr.grownBy w3 none):=grown_trans G2.out.1 H3.out.2.1
   refine hK.out _ _ (fun _=>grown_trans HR.out.2 G3.out) ?_
   clear hK K
   try simp only [pN]
   refine wpHold_one (i:=13) rfl (by kernel_rfl) (by rfl) (fun K hK=>?_)
   have sz:=HR.out.2.size
   refine appR_wp w3 _ _ rfl w1.heap.size u11 L _ (.slice ax nx cx) (.slice ay ny cy) r rfl rfl (HR2.out.grown G3.out) (vec_two w2 _ _ w3 H3.out.1) ((G2.out.2.2.1.grown H3.out.2.1).mono sz) ((G2.out.2.2.2.grown H3.out.2.1).mono sz) (by have:=HK.out.2.1;omega) (by have:=G3.out.size;omega) ?_
   intro a4 c4 w4 ht4 hg4
   have G4:Hid (TRws w4 w1.heap.size (.slice a4 (k+1) c4) (M.take (k+1))/\w1.grownBy w4 none):=by
    obtain ⟨q,hq,hq2⟩:=hg4
    refine ⟨?_,grown_new (grown_trans HR.out.2 G3.out) hq hq2⟩
    rw [HK.out.2.2,<-HK.out.2.1]
    exact ht4
   rw [HK.out.2.1]
   clear ht4 hg4 sz
   refine hK.out _ _ (fun _=>G4.out.2) ?_
   clear hK K
   try simp only [pN]
   refine tK (i:=14) (l':=[]) trivial (G4.out.2) rfl rfl (fun wk hk=>by obtain ⟨m0,m1⟩:=HC.out wk hk;go_simp;try rfl) ?_
   try simp only [pN]
   refine wpHold_done (by kernel_rfl) ?_
   refine (‹∀(a:Act) (w:World),Code.wp Tryz.prog _ _ a w->_› _ _ ?_)
   go_wp2_with fail
   go_roundw
   case rel=>exact ⟨k+1,by omega,by go_num,G4.out.1,G4.out.2⟩
   case measure=>simp [intOf];omega
  ·have hkn:k=m:=by omega
   subst hkn
   go_wp2_with fail
   go_ret
   have e:M.take k=M:=List.take_of_length_le (by have:=HL.out;omega)
   refine ⟨_,rfl,?_,grown_trans G1.out HR.out.2⟩
   rw [HM.out.1,<-e]
   exact HR.out.1.mono G1.out.size
theorem good_take {l:List PRow}(h:Good l)(k:Nat):Good (l.take k):=⟨rise_take h.1 k,ok_take h.2.1 k,by rw [List.length_take];have:=h.2.2;omega⟩
def risesB (l:List PRow)(k:Nat)(r:PRow):Bool:=if k=0 then true else match l[k-1]? with
 | some p=>decide (cmpL p.1 r.1<0)
 | none=>false
theorem good_snoc {l:List PRow}{k:Nat}(hk:k<l.length)(h:Good (l.take k))(hz:l.length<=1000000):Good (l.take (k+1))<->risesB l k l[k]=true/\okP l[k].1 l[k].2=true:=by
 have e:l.take (k+1)=l.take k ++ [l[k]]:=by rw [List.take_add_one,List.getElem?_eq_getElem hk];rfl
 have hlk:(l.take k).length=k:=by rw [List.length_take];omega
 constructor
 ·intro hg
  refine ⟨?_,hg.2.1 _ (by rw [e];exact List.mem_append_right _ (by simp))⟩
  unfold risesB
  split
  ·rfl
  ·rename_i h0
   rw [List.getElem?_eq_getElem (by omega)]
   have:=hg.1 (k-1) k (by simp;omega) (by simp;omega) (by omega)
   simp only [List.getElem_take] at this
   simpa using this
 ·rintro ⟨h1,h2⟩
  refine ⟨?_,?_,by rw [List.length_take];omega⟩
  ·rw [e]
   refine rise_append h.1 (rise_one _) ?_
   intro i j hi hj
   simp at hj
   subst hj
   rw [hlk] at hi
   simp only [List.getElem_take,List.getElem_cons_zero]
   unfold risesB at h1
   rw [if_neg (by omega),List.getElem?_eq_getElem (by omega)] at h1
   have h3:cmpL (l[k-1]'(by omega)).1 l[k].1<0:=by simpa using h1
   rcases Nat.lt_or_ge i (k-1) with h4 | h4
   ·have h5:=h.1 i (k-1) (by omega) (by omega) h4
    simp only [List.getElem_take] at h5
    exact Names.cmp_lt_trans (Int.le_of_lt h5) h3
   ·have:i=k-1:=by omega
    subst this
    exact h3
  ·intro r hr
   rw [e] at hr
   rcases List.mem_append.1 hr with hr | hr
   ·exact h.2.1 r hr
   ·rw [List.mem_singleton.1 hr]
    exact h2
theorem owns_same {w w':World}{B e size n:Nat}{v:Value}{xs:List Value}(h:w.ownsRow B e size v n xs)(hs:∀k,v.ownBlock=some k->w'.heap[k]? = w.heap[k]?):w'.ownsRow B e size v n xs:=by
 refine ⟨h.1,?_⟩
 rcases h.2 with h2 | ⟨g,cap,cur,rfl,hb,hg,h3⟩
 ·exact .inl h2
 ·exact .inr ⟨g,cap,cur,rfl,hb,(hs g rfl).trans hg,h3⟩
theorem appP_wp {o:Oper}{a:Act}{K:Act->World->Prop}{Q:Exit->Act->World->Prop}(w:World)(s x:Operand)(ho:o.op=.call { callee:=.builtin .append,args:=#[s,x],argTypes:=#[123,123] })
  (B:Nat) (v:Value) (n:Nat) (ps:List Nat) (u:Value) (p:Nat) (hs:a.eval s=v) (hx:a.eval x=u) (hv:w.ownsRow B 124 1 v n (PTR ps)) (hu:Vec w 1 u 1 [.pointer (some ⟨p,0,none⟩)]) (hb:n<=1000000) (hB:B<=w.heap.size)
  (h:∀ao cap w',w'.ownsRow B 124 1 (.slice ao (n+1) cap) (n+1) (PTR (ps ++ [p]))->True->(w.grownBy w' none\/∃g c,w.grownBy w' (some g)/\Blk w g 124 c/\B<=g)->K (a.put o.dst (.slice ao (n+1) cap)) w'):o.wp Tryz.prog a w K Q:=by
 obtain ⟨i0,hi,hz0,hz1,hz2⟩:=info_parts Tryz.info124
 obtain ⟨ad,c,eu⟩:∃ad c,u=.slice (some ad) 1 c:=by
  obtain ⟨ao,c,e,k1,_,k3,_⟩:=hu
  cases ao with
  | none=>have:=k3 rfl;omega
  | some ad=>exact ⟨ad,c,e⟩
 subst eu
 refine wp_append_lies w s x 123 ho B 124 i0 _ 1 8 ut66' hi hz0 hz1 hz2 rfl (by decide) v n (PTR ps) hs hv ad 1 c [.pointer (some ⟨p,0,none⟩)] hx rfl hu.news (by simp [Value.oneCell']) (by decide) (by unfold maxLen;omega) (by omega) hB w.heap.size rfl ?_
 intro g cap w' r1 r2 r3 _
 refine h _ cap w' (by rw [PTR_append];exact r1) trivial ?_
 rcases hv.2 with ⟨e2,_⟩ | ⟨g2,cap2,cur2,e2,hB2,hg2,_⟩
 ·rw [e2] at r2
  exact .inl r2
 ·rw [e2] at r2
  exact .inr ⟨g2,cur2,r2,hg2,hB2⟩
def OwnZ (X:Nat->Prop)(w:World)(v:Value)(L:Bs):Prop:=Disk.Own w 0 v L/\∀g,v.ownBlock=some g->¬X g
theorem OwnZ.grown {X:Nat->Prop}{w w':World}{v:Value}{L:Bs}(h:OwnZ X w v L)(hg:w.grownBy w' none):OwnZ X w' v L:=⟨h.1.grown hg,h.2⟩
theorem OwnZ.seg {X:Nat->Prop}{w:World}{v:Value}{L:Bs}(h:OwnZ X w v L):Seg w v L:=h.1.seg
theorem ownz_off {X:Nat->Prop}{w w':World}{v:Value}{L:Bs}(h:OwnZ X w v L){g t:Nat}{c:Array Value}(hg:w.grownBy w' (some g))(hb:Blk w g t c)(h5:t≠5):OwnZ X w' v L:=⟨own_off h.1 hg hb h5,h.2⟩
theorem ownz_new {X:Nat->Prop}{w:World}{n B:Nat}{v:Value}{L:Bs}(hX:∀g,X g->g<n)(hB:n<=B)(h:Disk.Own w B v L):OwnZ X w v L :=
 ⟨h.mono (Nat.zero_le _),fun g hg hx=>by have:=(h.lt g hg).1;have:=hX g hx;omega⟩
def RowAz (X:Nat->Prop)(w:World)(p:Nat)(r:PRow):Prop:=∃k v,Blk w p 86 #[k,v]/\OwnZ X w k r.1/\OwnZ X w v r.2/\¬X p
theorem RowAz.grown {X:Nat->Prop}{w w':World}{p:Nat}{r:PRow}(h:RowAz X w p r)(hg:w.grownBy w' none):RowAz X w' p r:=by
 obtain ⟨k,v,h1,h2,h3,h4⟩:=h
 exact ⟨k,v,h1.grown hg (by simp),h2.grown hg,h3.grown hg,h4⟩
theorem RowAz.off {X:Nat->Prop}{w w':World}{p:Nat}{r:PRow}(h:RowAz X w p r){g t:Nat}{c:Array Value}(hg:w.grownBy w' (some g))(hb:Blk w g t c)(h45:t≠86)(h5:t≠5):RowAz X w' p r:=by
 obtain ⟨k,v,h1,h2,h3,h4⟩:=h
 refine ⟨k,v,h1.grown hg (fun e=>?_),ownz_off h2 hg hb h5,ownz_off h3 hg hb h5,h4⟩
 simp at e
 subst e
 unfold Blk at h1 hb
 rw [h1] at hb
 simp at hb
 exact h45 hb.2.symm
def Atz (X:Nat->Prop)(w:World)(ps:List Nat)(l:List PRow):Prop:=ps.length=l.length/\∀j (h:j<ps.length) (h':j<l.length),RowAz X w ps[j] l[j]
theorem Atz.grown {X:Nat->Prop}{w w':World}{ps:List Nat}{l:List PRow}(h:Atz X w ps l)(hg:w.grownBy w' none):Atz X w' ps l:=⟨h.1,fun j a b=>(h.2 j a b).grown hg⟩
theorem Atz.off {X:Nat->Prop}{w w':World}{ps:List Nat}{l:List PRow}(h:Atz X w ps l){g t:Nat}{c:Array Value}(hg:w.grownBy w' (some g))(hb:Blk w g t c)(h45:t≠86)(h5:t≠5):Atz X w' ps l:=⟨h.1,fun j a b=>(h.2 j a b).off hg hb h45 h5⟩
theorem Atz.append {X:Nat->Prop}{w:World}{ps qs:List Nat}{l m:List PRow}(h:Atz X w ps l)(k:Atz X w qs m):Atz X w (ps ++ qs) (l ++ m):=by
 refine ⟨by simp [h.1,k.1],fun j a b=>?_⟩
 rw [List.getElem_append,List.getElem_append]
 have:=h.1
 split <;> split
 ·exact h.2 _ _ _
 ·omega
 ·omega
 ·have:=k.2 (j-ps.length) (by simp at a;omega) (by simp at b;omega)
  simp only [h.1] at this ⊢
  exact this
theorem Atz.take {X:Nat->Prop}{w:World}{ps:List Nat}{l:List PRow}(h:Atz X w ps l)(k:Nat):Atz X w (ps.take k) (l.take k):=by
 refine ⟨by simp [h.1],fun j a b=>?_⟩
 simp only [List.getElem_take]
 exact h.2 _ _ _
theorem Atz.drop {X:Nat->Prop}{w:World}{ps:List Nat}{l:List PRow}(h:Atz X w ps l)(k:Nat):Atz X w (ps.drop k) (l.drop k):=by
 refine ⟨by simp [h.1],fun j a b=>?_⟩
 simp only [List.getElem_drop]
 exact h.2 _ _ _
def Rowz (X:Nat->Prop)(w:World)(v:Value)(l:List PRow):Prop:=∃ps,Atz X w ps l/\Vec w 1 v l.length (PTR ps)
theorem Rowz.grown {X:Nat->Prop}{w w':World}{v:Value}{l:List PRow}(h:Rowz X w v l)(hg:w.grownBy w' none):Rowz X w' v l:=by
 obtain ⟨ps,h1,h2⟩:=h
 exact ⟨ps,h1.grown hg,h2.grown hg⟩
theorem Rowz.first {X:Nat->Prop}{w:World}{ao:Option Addr}{n cap:Nat}{l:List PRow}(h:Rowz X w (.slice ao n cap) l)(k:Nat)(hk:k<=n):Rowz X w (.slice ao k k) (l.take k):=by
 obtain ⟨ps,h1,h2⟩:=h
 have h2':=h2
 obtain ⟨ao',cap',e,hc,_⟩:=h2'
 simp at e
 obtain ⟨rfl,rfl,rfl⟩:=e
 refine ⟨ps.take k,h1.take k,?_⟩
 have:=h2.take k k (by omega) (Nat.le_refl _) (by omega)
 rw [List.length_take,Nat.min_eq_left (by omega)]
 unfold PTR at this ⊢
 rw [List.map_take]
 simpa using this
theorem rows_openz {X:Nat->Prop}{w:World}{v:Value}{l:List PRow}(h:Rowz X w v l):∃ao n cap,v=.slice ao n cap/\l.length=n/\n<=cap/\cap<=9223372036854775807/\Hid (Rowz X w (.slice ao n cap) l):=by
 have h':=h
 obtain ⟨ps,_,ao,cap,rfl,h2,h3,_⟩:=h'
 unfold maxLen at h3
 exact ⟨ao,_,cap,rfl,rfl,h2,by omega,h⟩
theorem rows_nilz {X:Nat->Prop}(w:World):Rowz X w (.slice none 0 0) []:=⟨[],⟨rfl,fun j h=>absurd h (by simp)⟩,vec_nil _ _⟩
def Tbz (X:Nat->Prop)(w:World)(b:Nat)(l:List PRow):Prop:=∃v,Blk w b 128 #[.bool true,v]/\Rowz X w v l
theorem Tbz.grown {X:Nat->Prop}{w w':World}{b:Nat}{l:List PRow}(h:Tbz X w b l)(hg:w.grownBy w' none):Tbz X w' b l:=by
 obtain ⟨v,h1,h2⟩:=h
 exact ⟨v,h1.grown hg (by simp),h2.grown hg⟩
theorem first52z {X:Nat->Prop}(b n:Nat)(l:List PRow)(w:World)(h:Tbz X w b l)(hn:n<=l.length):Calls Tryz.prog 96 #[.pointer (some ⟨b,0,none⟩),.int .i64 (n:Int)] w fun e w'=>∃f,e=.returned (.slice f n n)/\Rowz X w (.slice f n n) (l.take n)/\w'=w:=by
 obtain ⟨v,hb,hr⟩:=h
 obtain ⟨ao,m,cap,rfl,hm,h1,h2,HR⟩:=rows_openz hr
 have c1:=hb.cell 1
 have HB:Hid (Blk w b 128 #[.bool true,.slice ao m cap]):=hb
 have i0:(0:Int)<=(n:Int):=by omega
 have i1:(n:Int)<=(cap:Int):=by omega
 have hnm:n<=m:=by omega
 clear hb hr hm hn
 go_enter Tryz.func96,Tryz.ntmps96
 go_wp2_with (go_at_call 69;refine (there34 b true _ w HB.out).mono ?_;rintro e w1 ⟨rfl,hw⟩;rw [hw];clear hw)
 go_ret
 exact ⟨ao,rfl,HR.out.first n hnm,rfl⟩
theorem RowAz.old {X:Nat->Prop}{w:World}{p:Nat}{r:PRow}(h:RowAz X w p r):RowAt w p r:=by
 obtain ⟨k,v,h1,h2,h3,_⟩:=h
 exact ⟨k,v,h1,h2.1,h3.1⟩
theorem Atz.old {X:Nat->Prop}{w:World}{ps:List Nat}{l:List PRow}(h:Atz X w ps l):Ats w ps l:=⟨h.1,fun j a b=>(h.2 j a b).old⟩
theorem Rowz.old {X:Nat->Prop}{w:World}{v:Value}{l:List PRow}(h:Rowz X w v l):Rows w v l:=by
 obtain ⟨ps,h1,h2⟩:=h
 exact ⟨ps,h1.old,h2⟩
theorem Tbz.old {X:Nat->Prop}{w:World}{b:Nat}{l:List PRow}(h:Tbz X w b l):Tb w b l:=by
 obtain ⟨v,h1,h2⟩:=h
 exact ⟨v,h1,h2.old⟩
theorem rows_piecez {X:Nat->Prop}{w:World}{ao:Option Addr}{n cap:Nat}{l:List PRow}(h:Rowz X w (.slice ao n cap) l)(lo hi:Nat)(h1:lo<=hi)(h2:hi<=n):Rowz X w (sliced ao lo hi cap 1) ((l.drop lo).take (hi-lo)):=by
 obtain ⟨ps,ha,hv⟩:=h
 have hv':=hv
 obtain ⟨ao1,c1,e1,_⟩:=hv'
 simp at e1
 obtain ⟨rfl,rfl,rfl⟩:=e1
 have:=vec_piece hv lo hi h1 h2
 refine ⟨(ps.drop lo).take (hi-lo),(ha.drop lo).take _,?_⟩
 rw [PTR_take,PTR_drop,List.length_take,List.length_drop,Nat.min_eq_left (by omega)]
 simpa using this
theorem rows_restz {X:Nat->Prop}{w:World}{ao:Option Addr}{n cap:Nat}{l:List PRow}(h:Rowz X w (.slice ao n cap) l)(hn:l.length=n)(lo:Nat)(h1:lo<=n):Rowz X w (sliced ao lo n cap 1) (l.drop lo):=by
 have:=rows_piecez h lo n h1 (Nat.le_refl _)
 rwa [List.take_of_length_le (by rw [List.length_drop];omega)] at this
theorem off_rowsz {X:Nat->Prop}{w w':World}{b:Nat}(hg:w.grownBy w' (some b)){m:Bool}{ao:Option Addr}{n cap:Nat}(hb:Blk w b 128 #[.bool m,.slice ao n cap]){v:Value}{l:List PRow}(h:Rowz X w v l):Rowz X w' v l:=by
 obtain ⟨ps,ha,hv⟩:=h
 refine ⟨ps,ha.off hg hb (by decide) (by decide),hv.cells fun g j u hu hx=>?_⟩
 simp [PTR] at hu
 obtain ⟨p,_,rfl⟩:=hu
 exact off_cell hg hb hx (by simp [ptr]) (by simp [ptr])
theorem change54z {X:Nat->Prop}(b:Nat)(kv rv:Value)(l R:List PRow)(key:Bs)(hr:Rise l)(hz:l.length<=1000000)(hR:R.length<=1)(hkl:key.length<=100000)(w:World)(ht:Tbz X w b l)(hk:Seg w kv key)(hv:Rowz X w rv R) :
  Calls Tryz.prog 161 #[.pointer (some ⟨b,0,none⟩),kv,rv] w fun e w'=>e=.returned (.bool (hasL l key))/\Tbz X w' b (l.take (rankL l key) ++ (R ++ l.drop (endL l key)))/\w.grownBy w' (some b):=by
 have HT:Hid (Tbz X w b l/\Seg w kv key/\Rowz X w rv R):=⟨ht,hk,hv⟩
 have HR:Hid (Rise l/\l.length<=1000000/\R.length<=1):=⟨hr,hz,hR⟩
 obtain ⟨rk,hrk⟩:∃n,rankL l key=n:=⟨_,rfl⟩
 obtain ⟨en,hen⟩:∃n,endL l key=n:=⟨_,rfl⟩
 have l1:=end_le l key
 have l2:=end_ge l key
 have l3:=end_lt (l:=l) (key:=key)
 rw [hen] at l1
 rw [hrk,hen] at l2 l3
 have HQ:Hid (rankL l key=rk/\endL l key=en/\(rk<en<->hasL l key=true)):=⟨hrk,hen,l3⟩
 clear ht hk hr hz hv hR hrk hen l3
 go_enter Tryz.func161,Tryz.ntmps161
 go_wp2_with fail
 refine (row64 b kv l key HR.out.1 HR.out.2.1 hkl w HT.out.1.old HT.out.2.1).mono ?_
 rintro e w1 ⟨rfl,g1⟩
 rw [HQ.out.1,HQ.out.2.1]
 have G1:Hid (w.grownBy w1 none):=g1
 clear g1
 obtain ⟨tv,hb,hrows⟩:=HT.out.1.grown G1.out
 obtain ⟨ao,n,cap,rfl,hn,h1,h2,HV⟩:=rows_openz hrows
 have HB:Hid (Blk w1 b 128 #[.bool true,.slice ao n cap]):=hb
 have HN:Hid (l.length=n):=hn
 have e1:en<=n:=by omega
 clear hb hrows l1 hn
 obtain ⟨sv,hsv⟩:∃v,sliced ao en n cap 1=v:=⟨_,rfl⟩
 have hsl:∀wk,(Instr.slice 123 (.slice ao n cap) (some (.int .i64 (en:Int))) none none).run Tryz.prog wk=.ok sv wk:=fun wk=>by rw [<-hsv];exact run_rest 123 1 ut66 size66 ao n cap en e1 wk
 have HS:Hid (Rowz X w1 sv (l.drop en)):=by rw [<-hsv];exact rows_restz HV.out HN.out en e1
 clear hsv
 go_wp2_with fail
 have HM:Hid (∀y:World,w1.grownBy y none->y.cell? ⟨b,1,none⟩=some (.slice ao n cap)/\y.frozen? ⟨b,1,none⟩=false):=fun y hy=>⟨(HB.out.grown hy (by simp)).cell 1,(HB.out.grown hy (by simp)).free 1⟩
 refine wp_region_noPanic ?_
 refine wp_region_hold 15 (fun y=>w1.grownBy y none) (by kernel_rfl) ?_
 have G0:Hid (w1.grownBy w1.drew none):=grown_drew _ _
 generalize w1.drew=wd at G0 ⊢
 have J:Idx [0,1,2,4,6,7,8,9,10,11]:=trivial
 iterate 10 (refine tK J (G0.out) rfl rfl (fun wk hk=>by obtain ⟨m0,m1⟩:=HM.out wk hk;go_simp;try rfl) ?_;replace J:=J.tl;try simp only [pN])
 clear J
 refine wpHold_one (i:=3) rfl (by kernel_rfl) (by rfl) (fun K hK=>?_)
 go_wp2_with (go_at_call 96;refine (first52z b rk l wd ((HT.out.1.grown G1.out).grown G0.out) (by rw [HN.out];omega)).mono ?_)
 rintro e w2 ⟨f,rfl,hrf,hw2⟩
 rw [hw2]
 clear hw2
 have HF:Hid (Rowz X wd (.slice f rk rk) (l.take rk)):=hrf
 clear hrf
 go_wp2_with fail
 refine hK.out _ _ (fun _=>G0.out) ?_
 clear hK K
 try simp only [pN]
 refine wpHold_one (i:=5) rfl (by kernel_rfl) (by rfl) (fun K hK=>?_)
 obtain ⟨ps,hps,hpv⟩:=HF.out
 obtain ⟨qs,hqs,hqv⟩:=(HT.out.2.2.grown G1.out).grown G0.out
 have hlk:(l.take rk).length=rk:=by rw [List.length_take,HN.out];omega
 rw [hlk] at hpv
 refine app_wp wd _ _ 123 124 (.pointer none) 1 8 Tryz.info124 ut66' rfl (by decide) rfl wd.heap.size (.slice f rk rk) rk (PTR ps) rv R.length (PTR qs) rfl rfl (.inr ⟨⟨f,rfl⟩,hpv⟩) hqv (PTR_one _) ?_ ?_ (Nat.le_refl _) ?_
 ·have:=HR.out.2.2;have:=HR.out.2.1;rw [HN.out] at this;omega
 ·have:=HR.out.2.2;have:=HR.out.2.1;rw [HN.out] at this;unfold maxLen;omega
 intro v2 w2 hv2 hg2 hb2
 have HA:Hid (Apn w2 wd.heap.size 124 1 v2 (rk+R.length) (PTR ps ++ PTR qs)/\wd.grownBy w2 none/\Atz X wd ps (l.take rk)/\Atz X wd qs R):=by
  obtain ⟨r,hg,hr⟩:=hg2
  have hg':wd.grownBy w2 none:=⟨hg.os,hg.tape,hg.output,hg.size,fun k hk _=>hg.block k hk (fun e=>by have:=hr k e.symm;omega)⟩
  exact ⟨hv2,hg',hps,hqs⟩
 obtain ⟨a2,c2,e2,_⟩:=hv2.vec.shape
 subst e2
 clear hv2 hg2 hb2 hps hpv hqs hqv hlk HF
 have G2:Hid (w1.grownBy w2 none):=grown_trans G0.out HA.out.2.1
 refine hK.out _ _ (fun _=>G2.out) ?_
 clear hK K
 try simp only [pN]
 refine wpHold_one (i:=12) rfl (by kernel_rfl) (by rfl) (fun K hK=>?_)
 obtain ⟨us,hus,huv0⟩:=HS.out
 have huv:=huv0.grown G2.out
 have hlk:(l.drop en).length=n-en:=by rw [List.length_drop,HN.out]
 rw [hlk] at huv
 refine app_wp w2 _ _ 123 124 (.pointer none) 1 8 Tryz.info124 ut66' rfl (by decide) rfl wd.heap.size (.slice a2 (rk+R.length) c2) (rk+R.length) (PTR ps ++ PTR qs) sv (n-en) (PTR us) rfl rfl HA.out.1 huv (PTR_one _) ?_ ?_ HA.out.2.1.size ?_
 ·have:=HR.out.2.2;have:=HR.out.2.1;rw [HN.out] at this;omega
 ·have:=HR.out.2.2;have:=HR.out.2.1;rw [HN.out] at this;unfold maxLen;omega
 intro v3 w3 hv3 hg3 hb3
 have HC:Hid (Rowz X w3 v3 (l.take rk ++ (R ++ l.drop en))/\wd.grownBy w3 none):=by
  obtain ⟨r,hg,hr⟩:=hg3
  have hg':wd.grownBy w3 none:=grown_new HA.out.2.1 hg (fun x hx=>hr x hx)
  refine ⟨⟨ps ++ (qs ++ us),?_,?_⟩,hg'⟩
  ·exact ((HA.out.2.2.1.grown hg').append ((HA.out.2.2.2.grown hg').append (hus.grown (grown_trans G0.out hg'))))
  ·have:=hv3.vec
   rw [PTR_append,PTR_append,<-List.append_assoc (PTR ps)]
   have e:(l.take rk ++ (R ++ l.drop en)).length=rk+R.length+(n-en):=by simp [HN.out];omega
   rw [e]
   exact this
 obtain ⟨a3,c3,e3,_⟩:=hv3.vec.shape
 subst e3
 clear hv3 hg3 hb3 hus huv huv0 hlk
 have G3:Hid (w1.grownBy w3 none):=grown_trans G0.out HC.out.2
 refine hK.out _ _ (fun _=>G3.out) ?_
 clear hK K
 try simp only [pN]
 have J:Idx [13,14]:=trivial
 iterate 2 (refine tK J (G3.out) rfl rfl (fun wk hk=>by obtain ⟨m0,m1⟩:=HM.out wk hk;go_simp;try rfl) ?_;replace J:=J.tl;try simp only [pN])
 clear J
 refine wpHold_one (i:=15) rfl (by kernel_rfl) (by rfl) (fun K hK=>?_)
 obtain ⟨m0,m1⟩:=HM.out w3 G3.out
 go_wp2_with fail
 have HD:Hid (Tbz X (w3.setCell ⟨b,1,none⟩ (.slice a3 (rk+R.length+(n-en)) c3)) b (l.take rk ++ (R ++ l.drop en))/\w.grownBy (w3.setCell ⟨b,1,none⟩ (.slice a3 (rk+R.length+(n-en)) c3)) (some b)):=by
  have hb3:=HB.out.grown G3.out (by simp)
  refine ⟨⟨_,hb3.store 1 _,?_⟩,grown_trans (grown_weak (grown_trans G1.out G3.out) _) (grown_setCell _ _ _ _)⟩
  exact off_rowsz (grown_setCell _ _ _ _) hb3 HC.out.1
 generalize w3.setCell ⟨b,1,none⟩ (.slice a3 (rk+R.length+(n-en)) c3)=w4 at HD ⊢
 refine hK.out _ _ (fun h=>absurd rfl h) ?_
 clear hK K
 try simp only [pN]
 refine wpHold_done (by kernel_rfl) ?_
 refine (‹∀(a:Act) (w:World),Code.wp Tryz.prog _ _ a w->_› _ _ ?_)
 clear hsl
 go_wp2_with fail
 go_ret
 refine ⟨?_,by rw [HQ.out.1,HQ.out.2.1];exact HD.out.1,HD.out.2⟩
 have h3:=HQ.out.2.2
 by_cases h:rk<en
 ·rw [h3.1 h];simp [h]
 ·have:hasL l key=false:=by
   cases hh:hasL l key
   ·rfl
   ·exact absurd (h3.2 hh) h
  rw [this];simp;omega
theorem put17z {X:Nat->Prop}(b:Nat)(kv vv:Value)(l:List PRow)(k v:Bs)(hr:Rise l)(hz:l.length<=1000000)(w:World)(hX:∀g,X g->g<w.heap.size)(ht:Tbz X w b l)(hk:Seg w kv k)(hv:Seg w vv v) :
  Calls Tryz.prog 147 #[.pointer (some ⟨b,0,none⟩),kv,vv] w fun e w'=>e=.returned (.tuple #[.bool (putB l k v),.int .i64 (putC k v)])/\Tbz X w' b (putA l k v)/\w.grownBy w' (some b):=by
 obtain ⟨ao,n,cap,HB,_⟩:=tb_open ht.old
 have HT:Hid (Tbz X w b l/\Seg w kv k/\Seg w vv v):=⟨ht,hk,hv⟩
 have HR:Hid (Rise l/\l.length<=1000000):=⟨hr,hz⟩
 have HZ:Hid (∀g,X g->g<w.heap.size):=hX
 clear ht hk hv hr hz hX
 go_enter Tryz.func147,Tryz.ntmps147
 go_wp2_with (go_at_call 69;refine (there34 b true _ w HB.out.1).mono ?_;rintro e w1 ⟨rfl,hw⟩;rw [hw];clear hw)
 refine (mayBe53 kv vv k v w HT.out.2.1 HT.out.2.2).mono ?_
 rintro e w1 ⟨rfl,hw1⟩
 rw [hw1]
 clear hw1
 cases hok:okP k v
 ·have HO:Hid (okP k v=false):=hok
  unfold okP at hok
  rw [hok]
  clear hok
  go_wp2_with fail
  go_ret2
  exact ⟨by unfold putB putC;rw [HO.out];rfl,by unfold putA;rw [HO.out];exact HT.out.1,grown_refl _ _⟩
 ·have HO:Hid (okP k v=true):=hok
  obtain ⟨_,k1,k2⟩:=okP_len hok
  unfold okP at hok
  rw [hok]
  clear hok
  go_wp2_with fail
  refine (ownRow55 kv vv k v w HT.out.2.1 HT.out.2.2 (by omega) (by omega)).mono ?_
  rintro e w1 ⟨p,rfl,hp,⟨x,y,hb,ox,oy,_⟩,g1⟩
  have G1:Hid (w.grownBy w1 none/\RowAz X w1 p (k,v)):=⟨g1,x,y,hb,ownz_new HZ.out (Nat.le_refl _) ox,ownz_new HZ.out (Nat.le_refl _) oy,fun hx=>by have:=HZ.out _ hx;omega⟩
  clear hb ox oy g1 hp
  go_wp2_with fail
  obtain ⟨w2,hw2,H2⟩:=al w1 #[.pointer (some ⟨p,0,none⟩)] 124
  rw [hw2]
  clear hw2
  have HV:Hid (Rowz X w2 (.slice (some ⟨w1.heap.size,0,none⟩) 1 1) [(k,v)]):=by
   refine ⟨[p],⟨rfl,fun j h1 h2=>?_⟩,vec_one w1 _ 124 w2 H2.out.1⟩
   simp at h1
   subst h1
   exact G1.out.2.grown H2.out.2.1
  refine (change54z b kv _ l [(k,v)] k HR.out.1 HR.out.2 (by simp) (by omega) w2 ((HT.out.1.grown G1.out.1).grown H2.out.2.1) ((HT.out.2.1.grown G1.out.1).grown H2.out.2.1) HV.out).mono ?_
  rintro e w3 ⟨rfl,ht3,g3⟩
  have H3:Hid (Tbz X w3 b (putL l k v)/\w.grownBy w3 (some b)):=⟨ht3,grown_trans (grown_weak (grown_trans G1.out.1 H2.out.2.1) _) g3⟩
  clear ht3 g3
  go_wp2_with fail
  go_ret2
  exact ⟨by unfold putB putC;rw [HO.out];rfl,by unfold putA;rw [HO.out];exact H3.out.1,H3.out.2⟩
theorem delete19z {X:Nat->Prop}(b:Nat)(kv:Value)(l:List PRow)(k:Bs)(hr:Rise l)(hz:l.length<=1000000)(w:World)(ht:Tbz X w b l)(hk:Seg w kv k) :
  Calls Tryz.prog 148 #[.pointer (some ⟨b,0,none⟩),kv] w fun e w'=>e=.returned (.tuple #[.bool (delB l k),.int .i64 (delC k)])/\Tbz X w' b (delA l k)/\w.grownBy w' (some b):=by
 obtain ⟨ao,n,cap,HB,_⟩:=tb_open ht.old
 have HT:Hid (Tbz X w b l/\Seg w kv k):=⟨ht,hk⟩
 have HR:Hid (Rise l/\l.length<=1000000):=⟨hr,hz⟩
 clear ht hk hr hz
 go_enter Tryz.func148,Tryz.ntmps148
 go_wp2_with (go_at_call 69;refine (there34 b true _ w HB.out.1).mono ?_;rintro e w1 ⟨rfl,hw⟩;rw [hw];clear hw)
 refine (Names.key11 kv k w HT.out.2).mono ?_
 rintro e w1 ⟨rfl,hw1⟩
 rw [hw1]
 clear hw1
 cases hok:keyB k
 ·have HO:Hid (keyB k=false):=hok
  clear hok
  go_wp2_with fail
  go_ret2
  exact ⟨by unfold delB delC;rw [HO.out];rfl,by unfold delA;rw [HO.out];exact HT.out.1,grown_refl _ _⟩
 ·have HO:Hid (keyB k=true):=hok
  obtain ⟨_,k1⟩:=key_len hok
  clear hok
  go_wp2_with fail
  refine (change54z b kv _ l [] k HR.out.1 HR.out.2 (by simp) (by omega) w HT.out.1 HT.out.2 (rows_nilz w)).mono ?_
  rintro e w3 ⟨rfl,ht3,g3⟩
  have H3:Hid (Tbz X w3 b (delL l k)/\w.grownBy w3 (some b)):=⟨ht3,g3⟩
  clear ht3 g3
  go_wp2_with fail
  go_ret2
  exact ⟨by unfold delB delC;rw [HO.out];rfl,by unfold delA;rw [HO.out];exact H3.out.1,H3.out.2⟩
def NewPostz (X:Nat->Prop)(l:List PRow)(w:World)(e:Ending)(w':World):Prop :=
 (Good l/\∃b,e=.returned (.tuple #[.pointer (some ⟨b,0,none⟩),.int .i64 0])/\w.heap.size<=b/\Tbz X w' b l/\w.grownBy w' none)\/(¬Good l/\e=.returned (.tuple #[.pointer none,.int .i64 2])/\w.grownBy w' none)
theorem new22z {X:Nat->Prop}(v:Value)(l:List PRow)(hz:l.length<=1000000)(w:World)(hX:∀g,X g->g<w.heap.size)(hv:Rws w v l) :
  Calls Tryz.prog 46 #[v] w fun e w'=>NewPostz X l w e w':=by
 obtain ⟨ao,n,cap,rfl,hn,h1,h2,HV⟩:=rws_open hv
 have HN:Hid (l.length=n/\l.length<=1000000):=⟨hn,hz⟩
 have hn6:n<=1000000:=by omega
 have HZ:Hid (∀g,X g->g<w.heap.size):=hX
 clear hv hn hz hX
 go_enter Tryz.func46,Tryz.ntmps46
 go_wp2_with fail
 obtain ⟨w1,hw1,H1⟩:=al w #[.bool true,.slice none 0 0] 128
 rw [hw1]
 clear hw1
 obtain ⟨tb,htb⟩:∃b,w.heap.size=b:=⟨_,rfl⟩
 rw [htb] at H1 ⊢
 have HTB:Hid (w.heap.size=tb):=htb
 clear htb
 go_wp2_with fail
 go_loopw [12] (fun i wr=>∃(k:Nat) (tv:Value) (ps:List Nat),k<=n/\i=.int .i64 (k:Int)/\Good (l.take k)/\Blk wr tb 128 #[.bool true,tv]/\wr.ownsRow (tb+1) 124 1 tv k (PTR ps)/\Atz X wr ps (l.take k)/\w.grownBy wr none) (fun i _=>n-(intOf i).toNat)
 case atStart =>
  exact ⟨0,.slice none 0 0,[],Nat.zero_le _,rfl,⟨fun i j hi=>absurd hi (by simp),by simp,by simp⟩,H1.out.1,World.ownsRow_nil _ _ _ _,⟨by simp,fun j h=>absurd h (by simp)⟩,H1.out.2.1⟩
 case round =>
  obtain ⟨k,tv,ps,hk,rfl,hgood,hblk,hown,hats,hgr⟩:=hrel
  have HR:Hid (Good (l.take k)/\Blk wr tb 128 #[.bool true,tv]/\wr.ownsRow (tb+1) 124 1 tv k (PTR ps)/\Atz X wr ps (l.take k)/\w.grownBy wr none):=⟨hgood,hblk,hown,hats,hgr⟩
  clear hgood hblk hown hats hgr
  rcases Nat.lt_or_ge k n with hlt | hge
  ·have ka:k<l.length:=by rw [HN.out.1];exact hlt
   obtain ⟨bb,off,x,y,rfl,c0,c1,sx,sy⟩:=rws_at HV.out k ka
   obtain ⟨ax,nx,cx,rfl,_,_,HX⟩:=Names.seg_open sx
   obtain ⟨ay,ny,cy,rfl,_,_,HY⟩:=Names.seg_open sy
   have d0:wr.cell? ⟨bb,off+k*2,none⟩=some (.slice ax nx cx):=HR.out.2.2.2.2.cell c0 (by simp)
   have d1:wr.cell? ⟨bb,off+k*2+1,none⟩=some (.slice ay ny cy):=HR.out.2.2.2.2.cell c1 (by simp)
   have i0:(0:Int)<=(k:Int):=by omega
   have i1:(k:Int)<(n:Int):=by omega
   obtain ⟨r,hr⟩:∃r,l[k]=r:=⟨_,rfl⟩
   rw [hr] at HX HY
   obtain ⟨R,hR⟩:∃R,risesB l k r=R:=⟨_,rfl⟩
   have HG:Hid ((Good (l.take (k+1))<->R=true/\okP r.1 r.2=true)/\risesB l k r=R/\l.take (k+1)=l.take k ++ [r]):=by
    have:=good_snoc ka HR.out.1 HN.out.2
    rw [hr,hR] at this
    exact ⟨this,hR,by rw [List.take_add_one,List.getElem?_eq_getElem ka,hr];rfl⟩
   clear sx sy c0 c1 hr hR
   go_upto_region 5 with fail
   obtain ⟨w2,hw2,H2⟩:=al wr #[.slice ax nx cx,.slice ay ny cy] 86
   rw [hw2]
   clear hw2
   go_cut [7] (fun x wc=>x=.bool R/\∃m,wc=w2.drewN m)
   case first =>
    rcases Nat.eq_zero_or_pos k with hk0 | hk0
    ·subst hk0
     have HRR:Hid (R=true):=by rw [Hid,<-HG.out.2.1];rfl
     go_quiet (fail)
     go_wp2_with fail
     go_meet
     case rel=>exact ⟨by rw [HRR.out],_,rfl⟩
    ·obtain ⟨j,hj⟩:∃j,k=j+1:=⟨k-1,by omega⟩
     have ja:j<l.length:=by omega
     obtain ⟨b3,o3,x3,y3,e3,c3,_,s3,_⟩:=rws_at HV.out j ja
     simp at e3
     obtain ⟨rfl,rfl⟩:=e3
     have g2:w.grownBy w2 none:=grown_trans HR.out.2.2.2.2 H2.out.2.1
     have m0:w2.cell? ⟨bb,off+j*2,none⟩=some x3:=g2.cell c3 (by simp)
     have m1:=H2.out.1.cell 0
     simp at m1
     have q3:Seg w2 x3 l[j].1:=s3.grown g2
     have q4:Seg w2 (.slice ax nx cx) r.1:=HX.out.grown g2
     obtain ⟨A,hA⟩:∃A,l[j].1=A:=⟨_,rfl⟩
     rw [hA] at q3
     have HRR:Hid (R=decide (cmpL A r.1<0)):=by
      rw [Hid,<-HG.out.2.1]
      unfold risesB
      rw [if_neg (by omega),show k-1=j by omega,List.getElem?_eq_getElem ja]
      simp only [hA]
     have hj1:(k:Int)-1=(j:Int):=by omega
     have hj2:¬(k:Int)=0:=by omega
     have hj5:¬k=0:=by omega
     have hj3:(0:Int)<=(j:Int):=by omega
     have hj4:(j:Int)<(n:Int):=by omega
     clear c3 s3 g2 hA hj hk0
     have hj6:((k:Int)==0)=false:=by simp [hj5]
     have hj7:IntKind.i64.wrap (j:Int)=(j:Int):=by rw [IntKind.wrap_i64];omega
     have HM:Hid (∀y:World,(∃m,y=w2.drewN m)->y.cell? ⟨bb,off+j*2,none⟩=some x3/\y.cell? ⟨wr.heap.size,0,none⟩=some (.slice ax nx cx)):=by
      rintro y ⟨m,rfl⟩
      exact ⟨m0,m1⟩
     have HS:Hid (Seg w2 x3 A/\Seg w2 (.slice ax nx cx) r.1):=⟨q3,q4⟩
     clear q3 q4 m0 m1
     refine wp_region_noPanic ?_
     refine wp_region_hold 1000 (fun y=>∃m,y=w2.drewN m) (by kernel_rfl) ?_
     have G0:Hid (∃m,w2.drew=w2.drewN m):=⟨1,rfl⟩
     generalize w2.drew=wd at G0 ⊢
     refine tK (i:=0) (l':=[]) trivial (G0.out) rfl rfl (fun wk hk=>by obtain ⟨z0,z1⟩:=HM.out wk hk;go_simp;try rfl) ?_
     try simp only [pN]
     refine wpHold_one (i:=1) rfl (by kernel_rfl) (by rfl) (fun K hK=>?_)
     go_wp2_with fail
     refine hK.out _ _ (fun _=>G0.out) ?_
     clear hK K
     try simp only [pN]
     have J:Idx [2,3,4,5,6,7,8,9,10]:=trivial
     iterate 9 (refine tK J (G0.out) rfl rfl (fun wk hk=>by obtain ⟨z0,z1⟩:=HM.out wk hk;go_simp;try rfl) ?_;replace J:=J.tl;try simp only [pN])
     clear J
     refine wpHold_one (i:=11) rfl (by kernel_rfl) (by rfl) (fun K hK=>?_)
     go_wp2_with (go_at_call 73;refine (Names.cmp26 x3 _ A r.1 wd (by obtain ⟨m,e⟩:=G0.out;rw [e];exact Names.seg_drewN HS.out.1 m) (by obtain ⟨m,e⟩:=G0.out;rw [e];exact Names.seg_drewN HS.out.2 m)).mono ?_)
     rintro e w3 ⟨rfl,m,hw3⟩
     have G3:Hid (∃m,w3=w2.drewN m):=by
      obtain ⟨m1,e1⟩:=G0.out
      exact ⟨m1+m,by rw [hw3,e1,World.drewN_drewN]⟩
     clear hw3
     go_wp2_with fail
     refine hK.out _ _ (fun _=>G3.out) ?_
     clear hK K
     try simp only [pN]
     have J:Idx [12,13,14]:=trivial
     iterate 3 (refine tK J (G3.out) rfl rfl (fun wk hk=>by obtain ⟨z0,z1⟩:=HM.out wk hk;go_simp;try rfl) ?_;replace J:=J.tl;try simp only [pN])
     clear J
     refine wpHold_done (by kernel_rfl) ?_
     refine (‹∀(a:Act) (w:World),Met _ a w->_› _ _ ?_)
     go_meet
     case rel=>exact ⟨by rw [HRR.out],G3.out⟩
   case rest =>
    obtain ⟨rfl,m,hwc⟩:=hcut
    have HW:Hid (wr.grownBy wc none/\Blk wc wr.heap.size 86 #[.slice ax nx cx,.slice ay ny cy]/\Seg wc (.slice ax nx cx) r.1/\Seg wc (.slice ay ny cy) r.2):=by
     have g1:wr.grownBy wc none:=by rw [hwc];exact grown_trans H2.out.2.1 (grown_drewN _ _ _)
     have g2:=grown_trans HR.out.2.2.2.2 g1
     refine ⟨g1,?_,HX.out.grown g2,HY.out.grown g2⟩
     rw [hwc]
     exact H2.out.1.grown (grown_drewN _ _ none) (by simp)
    clear hwc
    have m0:=HW.out.2.1.cell 0
    have m1:=HW.out.2.1.cell 1
    simp at m0 m1
    refine (‹∀(a:Act) (w:World),Code.wp Tryz.prog _ _ a w->_› _ _ ?_)
    cases R with
    | false =>
     go_wp2_with fail
     go_ret2
     refine .inr ⟨fun hgd=>?_,rfl,grown_trans HR.out.2.2.2.2 HW.out.1⟩
     have:=HG.out.1.1 (good_take hgd _)
     simp at this
    | true =>
     have HGD:Hid (okP r.1 r.2=true->Good (l.take (k+1))):=fun h=>HG.out.1.2 ⟨rfl,h⟩
     obtain ⟨O,hO⟩:∃O,okP r.1 r.2=O:=⟨_,rfl⟩
     have HO:Hid (okP r.1 r.2=O):=hO
     have hO2:(keyB r.1 && valueB r.2)=O:=hO
     clear hO
     go_wp2_with fail
     refine (mayBe53 _ _ r.1 r.2 wc HW.out.2.2.1 HW.out.2.2.2).mono ?_
     rintro e w3 ⟨rfl,hw3⟩
     rw [hw3,hO2]
     clear hw3 hO2
     cases O with
     | false =>
      go_wp2_with fail
      go_ret2
      refine .inr ⟨fun hgd=>?_,rfl,grown_trans HR.out.2.2.2.2 HW.out.1⟩
      have:=HG.out.1.1 (good_take hgd _)
      rw [HO.out] at this
      simp at this
     | true =>
      have hok:=okP_len HO.out
      have HGG:Hid (Good (l.take (k+1))):=HGD.out HO.out
      have hbw:=HR.out.2.1.grown HW.out.1 (by simp)
      obtain ⟨at_,ct,et,_,_⟩:=(vec_of_owns HR.out.2.2.1).shape
      subst et
      obtain ⟨H,hH⟩:∃H:World->Prop,H=fun y=>w.grownBy y none/\Blk y tb 128 #[.bool true,.slice at_ k ct]/\Blk y wr.heap.size 86 #[.slice ax nx cx,.slice ay ny cy]:=⟨_,rfl⟩
      have HH:Hid (H=fun y=>w.grownBy y none/\Blk y tb 128 #[.bool true,.slice at_ k ct]/\Blk y wr.heap.size 86 #[.slice ax nx cx,.slice ay ny cy]):=hH
      have HG1:Hid (∀y y',H y->y.grownBy y' none->H y'):=by
       rw [hH]
       intro y y' h hg
       exact ⟨grown_trans h.1 hg,h.2.1.grown hg (by simp),h.2.2.grown hg (by simp)⟩
      have HM:Hid (∀y:World,H y->y.cell? ⟨tb,1,none⟩=some (.slice at_ k ct)/\y.frozen? ⟨tb,1,none⟩=false/\y.cell? ⟨wr.heap.size,0,none⟩=some (.slice ax nx cx)/\y.cell? ⟨wr.heap.size,1,none⟩=some (.slice ay ny cy)):=by
       rw [hH]
       exact fun y hy=>⟨hy.2.1.cell 1,hy.2.1.free 1,hy.2.2.cell 0,hy.2.2.cell 1⟩
      have HC0:Hid (H wc):=by
       rw [hH]
       exact ⟨grown_trans HR.out.2.2.2.2 HW.out.1,hbw,HW.out.2.1⟩
      clear hbw hH
      go_wp2_with fail
      refine wp_region_noPanic ?_
      refine wp_region_hold 14 H (by kernel_rfl) ?_
      have G0:Hid (wc.grownBy wc.drew none):=grown_drew _ _
      generalize wc.drew=wd at G0 ⊢
      have J:Idx [0,1,2,3,4,5,6,7,8]:=trivial
      iterate 9 (refine tK J ((HG1.out _ _ HC0.out G0.out)) rfl rfl (fun wk hk=>by obtain ⟨z0,z1,z2,z3⟩:=HM.out wk hk;go_simp;try rfl) ?_;replace J:=J.tl;try simp only [pN])
      clear J
      refine wpHold_one (i:=9) rfl (by kernel_rfl) (by rfl) (fun K hK=>?_)
      go_wp2_with (go_at_call 75;refine (ownRow55 _ _ r.1 r.2 wd (HW.out.2.2.1.grown G0.out) (HW.out.2.2.2.grown G0.out) (by omega) (by omega)).mono ?_)
      rintro e w3 ⟨p3,rfl,hp3,⟨x3,y3,hb3,ox3,oy3,_⟩,g3⟩
      have G3:Hid (wc.grownBy w3 none/\RowAz X w3 p3 r):=⟨grown_trans G0.out g3,x3,y3,hb3,ownz_new HZ.out (grown_trans HR.out.2.2.2.2 (grown_trans HW.out.1 G0.out)).size ox3,ownz_new HZ.out (grown_trans HR.out.2.2.2.2 (grown_trans HW.out.1 G0.out)).size oy3,fun hx=>by have:=HZ.out _ hx;have:=(grown_trans HR.out.2.2.2.2 (grown_trans HW.out.1 G0.out)).size;omega⟩
      clear g3 hb3 ox3 oy3 hp3
      go_wp2_with fail
      refine hK.out _ _ (fun _=>HG1.out _ _ HC0.out G3.out.1) ?_
      clear hK K
      try simp only [pN]
      refine wpHold_one (i:=10) rfl (by kernel_rfl) (by rfl) (fun K hK=>?_)
      go_wp2_with fail
      obtain ⟨w4,hw4,H4⟩:=al w3 #[.pointer (some ⟨p3,0,none⟩)] 124
      rw [hw4]
      clear hw4
      have G4:Hid (wc.grownBy w4 none):=grown_trans G3.out.1 H4.out.2.1
      refine hK.out _ _ (fun _=>HG1.out _ _ HC0.out G4.out) ?_
      clear hK K
      try simp only [pN]
      refine wpHold_one (i:=11) rfl (by kernel_rfl) (by rfl) (fun K hK=>?_)
      have gw4:=grown_trans HW.out.1 G4.out
      have hsz:tb+1<=w4.heap.size:=by have:=gw4.size;have:=HR.out.2.1.lt;omega
      refine appP_wp w4 _ _ rfl (tb+1) (.slice at_ k ct) k ps _ p3 rfl rfl (World.ownsRow.kept HR.out.2.2.1 gw4 (by cases (Value.slice at_ k ct).ownBlock <;> simp)) (vec_one w3 _ 124 w4 H4.out.1) (by omega) hsz ?_
      intro a5 c5 w5 hown5 hr5 hg5
      have HV5:Hid (w5.ownsRow (tb+1) 124 1 (.slice a5 (k+1) c5) (k+1) (PTR (ps ++ [p3]))/\Atz X w5 (ps ++ [p3]) (l.take (k+1))/\Blk w5 tb 128 #[.bool true,.slice at_ k ct]/\w.grownBy w5 none/\H w5):=by
       have h4:=HG1.out _ _ HC0.out G4.out
       have ha4:Atz X w4 (ps ++ [p3]) (l.take (k+1)):=by
        rw [HG.out.2.2]
        refine (HR.out.2.2.2.1.grown gw4).append ⟨rfl,fun j h1 h2=>?_⟩
        simp at h1
        subst h1
        exact G3.out.2.grown H4.out.2.1
       have hb4:=HR.out.2.1.grown gw4 (by simp)
       have htb:=HTB.out
       rcases hg5 with hg | ⟨g,c,hg,hgb,hge⟩
       ·exact ⟨hown5,ha4.grown hg,hb4.grown hg (by simp),grown_trans (grown_trans HR.out.2.2.2.2 gw4) hg,HG1.out _ _ h4 hg⟩
       ·have k1:=hb4.grown hg (by simp;omega)
        have k2:=grown_new (grown_trans HR.out.2.2.2.2 gw4) hg (fun x hx=>by simp at hx;omega)
        refine ⟨hown5,ha4.off hg hgb (by decide) (by decide),k1,k2,?_⟩
        rw [HH.out] at h4 ⊢
        refine ⟨k2,k1,h4.2.2.grown hg (fun e=>?_)⟩
        simp at e
        subst e
        have h5:=h4.2.2
        unfold Blk at h5 hgb
        rw [h5] at hgb
        simp at hgb
      clear hown5 hr5 hg5 gw4 hsz
      refine hK.out _ _ (fun _=>HV5.out.2.2.2.2) ?_
      clear hK K
      try simp only [pN]
      have J:Idx [12,13]:=trivial
      iterate 2 (refine tK J (HV5.out.2.2.2.2) rfl rfl (fun wk hk=>by obtain ⟨z0,z1,z2,z3⟩:=HM.out wk hk;go_simp;try rfl) ?_;replace J:=J.tl;try simp only [pN])
      clear J
      refine wpHold_one (i:=14) rfl (by kernel_rfl) (by rfl) (fun K hK=>?_)
      have f5:=HV5.out.2.2.1.free 1
      have q5:=HV5.out.2.2.1.cell 1
      simp at q5
      go_wp2_with fail
      obtain ⟨w6,hw6⟩:∃w6,w5.setCell ⟨tb,1,none⟩ (.slice a5 (k+1) c5)=w6:=⟨_,rfl⟩
      have H6:Hid (Blk w6 tb 128 #[.bool true,.slice a5 (k+1) c5]/\w6.ownsRow (tb+1) 124 1 (.slice a5 (k+1) c5) (k+1) (PTR (ps ++ [p3]))/\Atz X w6 (ps ++ [p3]) (l.take (k+1))/\w.grownBy w6 none):=by
       have g56:w5.grownBy w6 (some tb):=by rw [<-hw6];exact grown_setCell _ _ _ _
       have hb5:=HV5.out.2.2.1
       refine ⟨by rw [<-hw6];exact hb5.store 1 _,?_,HV5.out.2.1.off g56 hb5 (by decide) (by decide),grown_new HV5.out.2.2.2.1 g56 (fun x hx=>by simp at hx;have:=HTB.out;omega)⟩
       refine owns_same HV5.out.1 fun q hq=>g56.block q (World.ownsRow.lt HV5.out.1 q hq).2 (fun e=>?_)
       have:=(World.ownsRow.lt HV5.out.1 q hq).1
       simp at e
       omega
      rw [hw6]
      clear hw6
      refine hK.out _ _ (fun h=>absurd rfl h) ?_
      clear hK K
      try simp only [pN]
      refine wpHold_done (by kernel_rfl) ?_
      refine (‹∀(a:Act) (w:World),Code.wp Tryz.prog _ _ a w->_› _ _ ?_)
      go_wp2_with fail
      go_roundw
      case rel=>exact ⟨k+1,_,_,by omega,by go_num,HGG.out,H6.out.1,H6.out.2.1,H6.out.2.2.1,H6.out.2.2.2⟩
      case measure=>simp [intOf];omega
  ·have hkn:k=n:=by omega
   subst hkn
   go_wp2_with fail
   go_ret2
   have e:l.take k=l:=List.take_of_length_le (by have:=HN.out.1;omega)
   have hh:=HR.out
   rw [e] at hh
   refine .inl ⟨hh.1,tb,rfl,by have:=HTB.out;omega,⟨tv,hh.2.1,ps,hh.2.2.2.1,?_⟩,hh.2.2.2.2⟩
   rw [HN.out.1]
   exact vec_of_owns hh.2.2.1
end Go.Proofs.YtakmlhhapegpoaaGreat.Table
namespace Go.Proofs.YtakmlhhapegpoaaGreat.Table
open Go.RowKit Disk
section
variable {P:Program} {o:Oper} {a:Act} {w:World} {next:Act->World->Prop} {Q:Exit->Act->World->Prop}
theorem rows_wide {n:Nat}{row:String}{args:Array Value}{R:Value->World->Prop}(h:Go.Rows P row args w R):RowsIn Fence.wide n P row args w R :=
 fun c cs _=>let ⟨v,w',r,s⟩:=h c cs;⟨v,w',r,stepsIn_wide.2 s⟩
theorem upon_round (l n:Nat){r:Result Next}(h:o.upon P a next Q r):o.uponIn (Fence.wide.inRound l) n P a next Q r:=by
 cases r with
 | ok x w' =>
  cases x with
  | enter f args=>exact ⟨fun e=>by simp [Fence.wide] at e,callsIn_wide.2 h⟩
  | row row args=>exact ⟨fun e=>by simp [Fence.wide] at e,rows_wide h⟩
  | value v=>exact h
  | skip=>exact h
  | defer d=>exact h
  | _=>exact h.elim
 | halt x w' =>
  cases x with
  | panic v=>exact h
  | _=>exact h.elim
theorem oper_round (l n:Nat)(hd:∀c,o.op≠.defer c)(h:o.wp P a w next Q):o.wpIn (Fence.wide.inRound l) n P a w next Q :=
 ⟨fun _ _=>trivial,by rw [Fence.inRound_round,Oper.semAt_some l _ _ hd];exact upon_round l n h⟩
theorem oper_wide (n:Nat)(h:o.wp P a w next Q):o.wpIn Fence.wide n P a w next Q:=by
 refine ⟨fun _ _=>trivial,?_⟩
 rw [Fence.wide_round,Oper.semAt_none]
 unfold Oper.wp at h
 generalize (execOp a.eval o).run P w=r at *
 cases r with
 | ok x w' =>
  cases x with
  | enter f args=>exact ⟨fun e=>by simp [Fence.wide] at e,callsIn_wide.2 h⟩
  | row row args=>exact ⟨fun e=>by simp [Fence.wide] at e,rows_wide h⟩
  | value v=>exact h
  | skip=>exact h
  | defer d=>exact h
  | _=>exact h.elim
 | halt x w' =>
  cases x with
  | panic v=>exact h
  | _=>exact h.elim
theorem yield_wide {l:Nat}{f:Operand}{xs ys:Operand}{x y:Value}{ts:Array TypeId}{R:Ending->World->Prop}(hy:YieldAt Fence.wide 0 P l #[x,y] w R)(ho:o.op=.call { callee:=.value f,args:=#[xs,ys],argTypes:=ts })(hf:a.eval f=.func (.yield l) #[] #[])(hx:a.eval xs=x)(hys:a.eval ys=y)
  (h:∀e w',R e w'->∃v,e=.returned v/\next (a.put o.dst v) w'):o.wpIn Fence.wide 0 P a w next Q:=by
 obtain ⟨fn,tmps,assign,body,hr,hR⟩:=hy
 refine ⟨fun _ _=>trivial,?_⟩
 rw [Fence.wide_round,Oper.semAt_none]
 have e:(execOp a.eval o).run P w=.ok (.round l fn tmps assign body) w:=by
  simp only [execOp,ho,resolve,invoke,Sem.run_bind,List.map_toArray,List.map_cons,List.map_nil,hf,hx,hys]
  exact hr
 rw [e,Oper.uponIn_round]
 refine ⟨fun e=>by simp [Fence.wide] at e,hR.mono ?_⟩
 intro e w' he
 obtain ⟨v,rfl,hn⟩:=h e w' he
 exact hn
theorem yield_round {l' l:Nat}{f:Operand}{xs ys:Operand}{x y:Value}{ts:Array TypeId}{R:Ending->World->Prop}(hy:YieldAt Fence.wide 0 P l #[x,y] w R)(ho:o.op=.call { callee:=.value f,args:=#[xs,ys],argTypes:=ts })(hf:a.eval f=.func (.yield l) #[] #[])(hx:a.eval xs=x)(hys:a.eval ys=y)
  (h:∀e w',R e w'->∃v,e=.returned v/\next (a.put o.dst v) w'):o.wpIn (Fence.wide.inRound l') 0 P a w next Q:=by
 obtain ⟨fn,tmps,assign,body,hr,hR⟩:=hy
 refine ⟨fun _ _=>trivial,?_⟩
 rw [Fence.inRound_round,Oper.semAt_some l' _ _ (by rw [ho];simp)]
 have e:(execOp a.eval o).run P w=.ok (.round l fn tmps assign body) w:=by
  simp only [execOp,ho,resolve,invoke,Sem.run_bind,List.map_toArray,List.map_cons,List.map_nil,hf,hx,hys]
  exact hr
 rw [e,Oper.uponIn_round]
 refine ⟨fun e=>by simp [Fence.wide] at e,RoundIn.mono (F:=Fence.wide.inRound l') hR ?_⟩
 intro e w' he
 obtain ⟨v,rfl,hn⟩:=h e w' he
 exact hn
def noDefer (ops:List Oper):Bool:=ops.all fun o=>match o.op with
 | .defer _=>false
 | _=>true
theorem noDefer_spec {ops:List Oper}(h:noDefer ops=true){o:Oper}(ho:o ∈ ops):∀c,o.op≠.defer c:=by
 intro c e
 have:=(List.all_eq_true.1 h) o ho
 rw [e] at this
 exact absurd this (by simp)
theorem list_round (l n:Nat){ops:Array Oper}(hQ:¬LetsOut Q):∀(rest:List Oper) (a:Act) (w:World),(∀o ∈ rest,∀c,o.op≠.defer c)->wpList P ops Q rest a w->wpListIn (Fence.wide.inRound l) n P ops Q rest a w
 | [],a,w,_,h=>h
 | o :: rest,a,w,hd,h=>by
  unfold wpList at h
  unfold wpListIn
  have ih:=list_round l n hQ (ops:=ops) rest
  split
  ·rename_i hw
   rw [if_pos hw] at h
   rcases h with h | h
   ·refine oper_round l n (hd o (by simp)) ?_
    have e:∀x y,wpList P ops Q rest x y->wpListIn (Fence.wide.inRound l) n P ops Q rest x y:=fun x y hx=>ih x y (fun o ho=>hd o (by simp [ho])) hx
    exact Oper.wp_mono e h
   ·exact absurd h.2 hQ
  ·rename_i hw
   rw [if_neg hw] at h
   exact ⟨fun _ _=>trivial,ih _ _ (fun o ho=>hd o (by simp [ho])) h⟩
theorem op_round (l n:Nat){ops:Array Oper}(hQ:¬LetsOut Q){i:Nat}{K K':Act->World->Prop}(hd:∀o ∈ ops.toList,∀c,o.op≠.defer c)(hK:∀a w,K a w->K' a w)(h:wpOp P ops Q i K a w):wpOpIn (Fence.wide.inRound l) n P ops Q i K' a w:=by
 unfold wpOp at h
 unfold wpOpIn
 cases ho:ops[i]? with
 | none=>rw [ho] at h;exact hK _ _ h
 | some o =>
  rw [ho] at h
  have hm:o ∈ ops.toList:=by
   have:=Array.mem_of_getElem? ho
   simpa using this
  by_cases hw:Region.wanted o (yielded ops a.tmps)=true
  ·simp only [hw,if_true] at h ⊢
   rcases h with h | h
   ·exact oper_round l n (hd o hm) (Oper.wp_mono hK h)
   ·exact absurd h.2 hQ
  ·simp only [hw] at h ⊢
   exact ⟨fun _ _=>trivial,hK _ _ h⟩
theorem any_round (l n:Nat){md:Region.Mode}{ops:Array Oper}(hQ:¬LetsOut Q)(hd:∀o ∈ ops.toList,∀c,o.op≠.defer c):∀(fuel:Nat) (listed:Array Bool) (a:Act) (w:World),wpAny P md ops Q fuel listed a w->wpAnyIn (Fence.wide.inRound l) n P md ops Q fuel listed a w
 | 0,_listed,_a,_w,h=>h
 | fuel+1,_listed,_a,_w,h=>⟨h.1,fun i hi=>op_round l n hQ hd (fun a w=>any_round l n hQ hd fuel _ a w) (h.2 i hi)⟩
theorem region_round {l n id:Nat}{ops:List Oper}(hQ:¬LetsOut Q)(hd:noDefer ops=true)(h:wpList P ops.toArray Q ops a w):(Code.region id ops.toArray false).wpIn (Fence.wide.inRound l) n P Q a w :=
 wpIn_region_lit (list_round l n hQ ops a w (fun _ ho=>noDefer_spec hd ho) h)
theorem region_round_hold (z:Nat)(H:World->Prop){l n id:Nat}{ops:Array Oper}(hQ:¬LetsOut Q)(hd:noDefer ops.toList=true)(hm:P.follows .mixedOrders=true)(h:wpHold P z H .any ops Q ops.size (Array.replicate ops.size false) a w.drew):(Code.region id ops true).wpIn (Fence.wide.inRound l) n P Q a w :=
 wpIn_region_any hm (any_round l n hQ (fun _ ho=>noDefer_spec hd ho) _ _ _ _ (wpAny_of_hold _ _ _ _ h))
end
section
variable {P:Program} {ops:Array Oper} {Q:Exit->Act->World->Prop} {md:Region.Mode} {H:World->Prop} {z:Nat} {Y:(Act->World->Prop)->Act->World->Prop}
def wpHoldY (P:Program)(z:Nat)(H:World->Prop)(md:Region.Mode)(ops:Array Oper)(Q:Exit->Act->World->Prop)(Y:(Act->World->Prop)->Act->World->Prop):Nat->Array Bool->Act->World->Prop
 | 0,listed,a,w=>Region.ready md ops listed=[]/\Q .normal a w
 | n+1,listed,a,w=>(Region.ready md ops listed=[]->Q .normal a w) ∧
   ∀i ∈ Region.ready md ops listed,(i=z->Y (fun a' w'=>wpHoldY P z H md ops Q Y n (listed.setIfInBounds i true) a' w') a w) ∧
    (i≠z->wpOp P ops Q i (fun a' w'=>(listed.getD z false=false->H w')/\wpHoldY P z H md ops Q Y n (listed.setIfInBounds i true) a' w') a w)
theorem wpAnyIn_of_holdY (l:Nat)(hQ:¬LetsOut Q)(hd:∀o ∈ ops.toList,∀c,o.op≠.defer c)
  (hY:∀(K K':Act->World->Prop) a w,(∀a w,K a w->K' a w)->Y K a w->wpOpIn (Fence.wide.inRound l) 0 P ops Q z K' a w) :
  ∀(n:Nat) (listed:Array Bool) (a:Act) (w:World),wpHoldY P z H md ops Q Y n listed a w->wpAnyIn (Fence.wide.inRound l) 0 P md ops Q n listed a w
 | 0,_,_,_,h=>h
 | n+1,listed,a,w,h=>⟨h.1,fun i hi=>by
   by_cases hz:i=z
   ·have h1:=(h.2 i hi).1 hz
    rw [hz] at h1 ⊢
    exact hY _ _ a w (fun a' w' h'=>wpAnyIn_of_holdY l hQ hd hY n _ a' w' h') h1
   ·exact op_round l 0 hQ hd (fun a' w' h'=>wpAnyIn_of_holdY l hQ hd hY n _ a' w' h'.2) ((h.2 i hi).2 hz)⟩
theorem wpHoldY_first {i:Nat}{oi:Oper}{v:Value}(hi:ops[i]? = some oi)(hsel:∀(j:Nat) (o:Oper) cs b,ops[j]? = some o->o.op≠.select cs b)
  (hz:waitsH md ops z i=true) (hiz:i≠z)
  (hQ:∀c a w,Q (.panic c) (a.put oi.dst v) w->Q (.panic c) a w) :
  ∀(n:Nat) (listed:Array Bool) (a:Act) (w:World),Shutdown md ops listed->listed.getD z false=false->H w →
   (∀j oj,ops[j]? = some oj->j≠i->listed.getD j true=false->(∀e ∈ oj.after,Region.binds md e=true->e.on≠i)->oi.apart ops oj=true) →
   i ∈ Region.ready md ops listed->YieldsIf P ops H oi v a →
   wpHoldY P z H md ops Q Y n (listed.setIfInBounds i true) (a.put oi.dst v) w->wpHoldY P z H md ops Q Y (n+1) listed a w:=by
 intro n
 induction n with
 | zero =>
  intro listed a w _ _ hH _ hr hy W
  refine ⟨fun h=>(by rw [h] at hr;cases hr),fun j hj=>?_⟩
  by_cases hji:j=i
  ·subst hji;exact ⟨fun e=>absurd e hiz,fun _=>hy.wpOp hi hH ⟨fun _=>hH,W⟩⟩
  ·have h0:=ready_mono hj hji
   rw [W.1] at h0
   cases h0
 | succ n ih =>
  intro listed a w hsd hzl hH hfree hr hy W
  refine ⟨fun h=>(by rw [h] at hr;cases hr),fun j hj=>?_⟩
  by_cases hji:j=i
  ·subst hji;exact ⟨fun e=>absurd e hiz,fun _=>hy.wpOp hi hH ⟨fun _=>hH,W⟩⟩
  ·have hjz:j≠z:=waitsH_not hsd hz hr hj
   refine ⟨fun e=>absurd e hjz,fun _=>?_⟩
   have h1:=(W.2 j (ready_mono hj hji)).2 hjz
   obtain ⟨hjun,oj,hoj,hall⟩:=mem_ready.1 hj
   have hnot:∀e ∈ oj.after,Region.binds md e=true->e.on≠i:=fun e he hb heq=>by
    have h2:=hall e he hb
    have h0:=(mem_ready.1 hr).1
    rw [heq] at h2
    rcases Nat.lt_or_ge i listed.size with h' | h'
    ·simp [h'] at h0 h2;rw [h0] at h2;cases h2
    ·simp [Array.getElem?_eq_none h'] at h2
   have h2:=wpOp_putIf hoj (hfree j oj hoj hji hjun hnot) (fun cs b=>hsel i oi cs b hi) (fun cs b=>hsel j oj cs b hoj) hQ hy h1
   have hfree':∀k ok,ops[k]? = some ok->k≠i->(listed.setIfInBounds j true).getD k true=false →
     (∀e ∈ ok.after,Region.binds md e=true->e.on≠i)->oi.apart ops ok=true:=fun k ok hk hki hun hno=>by
    refine hfree k ok hk hki ?_ hno
    by_cases hjk:j=k
    ·subst hjk;exact hjun
    ·rw [getD_set_ne true hjk] at hun;exact hun
   have hzl':(listed.setIfInBounds j true).getD z false=false:=by rw [getD_set_ne false hjz];exact hzl
   have hzi:(listed.setIfInBounds i true).getD z false=false:=by rw [getD_set_ne false hiz];exact hzl
   refine wpOp_mono (fun a' w' h3=>⟨fun _=>h3.2.1 hzi,ih (listed.setIfInBounds j true) a' w' (hsd.set hj) hzl' (h3.2.1 hzi) hfree' (ready_mono hr (Ne.symm hji)) h3.1 ?_⟩) h2
   rw [Array.setIfInBounds_comm _ _ hji]
   exact h3.2.2
theorem wpHoldY_take {i:Nat}{oi:Oper}{l:List Oper}{d:Option Tmp}{v:Value}{n:Nat}{listed:Array Bool}{a:Act}{w:World}(hH:H w)(hi:ops.toList.drop i=oi :: l)(hd:oi.dst=d)(hiz:i≠z)(hzl:listed.getD z false=false)
  (hs:Region.noSelect ops=true) (hz:waitsH md ops z i=true) (hsd:shutB md ops listed=true) (hf:Region.free md ops listed i=true) (hr:(Region.ready md ops listed).contains i=true)
  (hQ:∀c a w,Q (.panic c) (a.put d v) w->Q (.panic c) a w) (hw:Region.wanted oi (yielded ops a.tmps)=true) (hy:∀x:World,H x->(execOp a.eval oi).run P x=.ok (.value v) x)
  (h:wpHoldY P z H md ops Q Y n (listed.setIfInBounds i true) (a.put d v) w):wpHoldY P z H md ops Q Y (n+1) listed a w:=by
 subst hd
 exact wpHoldY_first (get_of_dropH hi) (Region.noSelect_spec hs) hz hiz hQ n listed a w (shutB_spec hsd) hzl hH (Region.free_spec (get_of_dropH hi) hf) (by simpa using hr) (.inl ⟨hw,hy⟩) h
theorem wpHoldY_one {i:Nat}{oi:Oper}{l:List Oper}{n:Nat}{listed:Array Bool}{a:Act}{w:World}(hi:ops.toList.drop i=oi :: l)(hiz:i≠z)(hr:Region.ready md ops listed=[i])(hw:Region.wanted oi (yielded ops a.tmps)=true)
  (h:∀K:Act->World->Prop,Shut (∀a' w',(listed.getD z false=false->H w')->wpHoldY P z H md ops Q Y n (listed.setIfInBounds i true) a' w'->K a' w')->Oper.wp P oi a w K Q):wpHoldY P z H md ops Q Y (n+1) listed a w:=by
 refine ⟨fun h0=>(by rw [hr] at h0;cases h0),fun j hj=>?_⟩
 rw [hr] at hj
 have e:j=i:=by simpa using hj
 subst e
 refine ⟨fun e=>absurd e hiz,fun _=>wpOp_step (get_of_dropH hi) fun K hK=>?_⟩
 rw [if_pos hw]
 exact h K fun a' w' h1 h2=>hK a' w' ⟨h1,h2⟩
theorem wpHoldY_z {n:Nat}{listed:Array Bool}{a:Act}{w:World}(hr:Region.ready md ops listed=[z])(h:Y (fun a' w'=>wpHoldY P z H md ops Q Y n (listed.setIfInBounds z true) a' w') a w):wpHoldY P z H md ops Q Y (n+1) listed a w:=by
 refine ⟨fun h0=>(by rw [hr] at h0;cases h0),fun j hj=>?_⟩
 rw [hr] at hj
 have e:j=z:=by simpa using hj
 subst e
 exact ⟨fun _=>h,fun e=>absurd rfl e⟩
theorem wpHoldY_done {n:Nat}{listed:Array Bool}{a:Act}{w:World}(hr:Region.ready md ops listed=[])(h:Q .normal a w):wpHoldY P z H md ops Q Y n listed a w:=by
 cases n with
 | zero=>exact ⟨hr,h⟩
 | succ n=>exact ⟨fun _=>h,by rw [hr];simp⟩
theorem region_round_holdY (z:Nat)(H:World->Prop)(Y:(Act->World->Prop)->Act->World->Prop){l id:Nat}{a:Act}{w:World}(hQ:¬LetsOut Q)(hd:noDefer ops.toList=true)(hm:P.follows .mixedOrders=true)
  (hY:∀(K K':Act->World->Prop) a w,(∀a w,K a w->K' a w)->Y K a w->wpOpIn (Fence.wide.inRound l) 0 P ops Q z K' a w)
  (h:wpHoldY P z H .any ops Q Y ops.size (Array.replicate ops.size false) a w.drew):(Code.region id ops true).wpIn (Fence.wide.inRound l) 0 P Q a w :=
 wpIn_region_any hm (wpAnyIn_of_holdY l hQ (fun _ ho=>noDefer_spec hd ho) hY _ _ _ _ h)
end
structure Tn (n0:Nat)(W W':World):Prop where
 os:W'.os=W.os
 tape:W'.tape=W.tape
 output:W'.output=W.output
 size:W.heap.size<=W'.heap.size
 block:∀i,i<W.heap.size->(i<n0\/∃c t z,W.heap[i]? = some (.cells c t z))->W'.heap[i]? = W.heap[i]?
theorem Tn.refl (n0:Nat)(W:World):Tn n0 W W:=⟨rfl,rfl,rfl,Nat.le_refl _,fun _ _ _=>rfl⟩
theorem Tn.of_grown {n0:Nat}{W W':World}(h:W.grownBy W' none):Tn n0 W W':=⟨h.os,h.tape,h.output,h.size,fun i hi _=>h.block i hi (by simp)⟩
theorem Tn.trans {n0:Nat}{A B C:World}(h:Tn n0 A B)(k:Tn n0 B C):Tn n0 A C :=
 ⟨k.os.trans h.os,k.tape.trans h.tape,k.output.trans h.output,Nat.le_trans h.size k.size,fun i hi hc=>by
  have h1:=h.block i hi hc
  refine (k.block i (Nat.lt_of_lt_of_le hi h.size) ?_).trans h1
  rcases hc with hc | ⟨c,t,z,hc⟩
  ·exact .inl hc
  ·exact .inr ⟨c,t,z,h1.trans hc⟩⟩
theorem Tn.mono {n0 n1:Nat}{A B:World}(h:Tn n1 A B)(hn:n0<=n1):Tn n0 A B:=⟨h.os,h.tape,h.output,h.size,fun i hi hc=>h.block i hi (by rcases hc with hc | hc;exact .inl (by omega);exact .inr hc)⟩
theorem Tn.put {n0:Nat}{W:World}{b:Nat}{r:Loop}(o:Obj)(hb:W.heap[b]? = some (.loop r))(hn:n0<=b):Tn n0 W (W.putObj b o) :=
 ⟨rfl,rfl,rfl,by simp [World.putObj],fun i _ hc=>by
  have hne:i≠b:=fun e=>by
   subst e
   rcases hc with hc | ⟨c,t,z,hc⟩
   ·omega
   ·rw [hb] at hc;cases hc
  exact World.putObj_heap_other hne⟩
theorem Tn.putD {n0:Nat}{W:World}{b:Nat}{d:Option (List Deferred)}(o:Obj)(hb:W.heap[b]? = some (.deferred d))(hn:n0<=b):Tn n0 W (W.putObj b o) :=
 ⟨rfl,rfl,rfl,by simp [World.putObj],fun i _ hc=>by
  have hne:i≠b:=fun e=>by
   subst e
   rcases hc with hc | ⟨c,t,z,hc⟩
   ·omega
   ·rw [hb] at hc;cases hc
  exact World.putObj_heap_other hne⟩
theorem Tn.blk {n0:Nat}{W W':World}(h:Tn n0 W W'){b t:Nat}{c:Array Value}(hb:Blk W b t c):Blk W' b t c:=(h.block b hb.lt (.inr ⟨_,_,_,hb⟩)).trans hb
theorem Tn.cell {n0:Nat}{W W':World}(h:Tn n0 W W'){b j:Nat}{v:Value}(hc:W.cell? ⟨b,j,none⟩=some v):W'.cell? ⟨b,j,none⟩=some v:=by
 unfold World.cell? at hc ⊢
 cases hb:W.heap[b]? with
 | none=>simp [hb] at hc
 | some o =>
  cases o with
  | cells c t z =>
   have:=h.block b (Array.getElem?_eq_some_iff.1 hb).1 (.inr ⟨_,_,_,hb⟩)
   simp only [this]
   exact hc
  | _=>simp [hb] at hc
theorem Tn.seg {n0:Nat}{W W':World}(h:Tn n0 W W'){v:Value}{L:List UInt8}(hs:Seg W v L):Seg W' v L:=hs.of_cells fun _ _ _ hx=>h.cell hx
theorem Tn.own {n0:Nat}{W W':World}(h:Tn n0 W W'){B:Nat}{v:Value}{L:List UInt8}(hs:Disk.Own W B v L):Disk.Own W' B v L:=hs.same fun k hk=>by
 rcases hs.2 with ⟨e,_⟩ | ⟨g,cap,cur,e,_,hg,_⟩
 ·rw [e] at hk;simp [Value.ownBlock] at hk
 ·rw [e] at hk
  simp [Value.ownBlock] at hk
  subst hk
  exact h.block g (Array.getElem?_eq_some_iff.1 hg).1 (.inr ⟨_,_,_,hg⟩)
def Handed (xs:Array Value)(i:Nat):Prop:=∃v ∈ xs,v.ownBlock=some i
theorem calls_marks {P:Program}{f:FuncId}{fn:Func}{c:Code}{args:Array Value}{w:World}{R:Ending->World->Prop}(hf:P.funcs[f]? = some fn)(hb:fn.body=some c)
  (h:c.wp P (bodyPostM Fence.wide 0 P fn R) { tmps:=args ++ Array.replicate (fn.ntmps-args.size) undef,defers:=[] } w):Calls P f args w R :=
 callsIn_wide.1 (callsIn_of_wp_marks hf hb trivial (wpIn_wide.2 h))
def PIn (w:World)(F:Nat->Prop)(v:Value)(ps:List Nat):Prop:=∃ao cap,v=.slice ao ps.length cap/\ps.length<=cap/\cap<=maxLen/\∀j (hj:j<ps.length),∃b off,ao=some ⟨b,off,none⟩/\w.cell? ⟨b,off+j,none⟩=some (ptr ps[j])/\F b
theorem cell_lt {w:World}{b off:Nat}{v:Value}(h:w.cell? ⟨b,off,none⟩=some v):b<w.heap.size:=by
 unfold World.cell? at h
 cases hb:w.heap[b]? with
 | none=>simp [hb] at h
 | some o=>exact (Array.getElem?_eq_some_iff.1 hb).1
theorem cell_same {w w':World}{b j:Nat}(h:w'.heap[b]? = w.heap[b]?):w'.cell? ⟨b,j,none⟩=w.cell? ⟨b,j,none⟩:=by
 unfold World.cell?
 simp only [h]
theorem PIn.same {w w':World}{F:Nat->Prop}{v:Value}{ps:List Nat}(h:PIn w F v ps)(hs:∀k,F k->k<w.heap.size->w'.heap[k]? = w.heap[k]?):PIn w' F v ps:=by
 obtain ⟨ao,cap,h1,h2,h3,h4⟩:=h
 refine ⟨ao,cap,h1,h2,h3,fun j hj=>?_⟩
 obtain ⟨b,off,e,hc,hF⟩:=h4 j hj
 exact ⟨b,off,e,by rw [cell_same (hs b hF (cell_lt hc))];exact hc,hF⟩
theorem PIn.grown {w w':World}{F:Nat->Prop}{v:Value}{ps:List Nat}(h:PIn w F v ps)(hg:w.grownBy w' none):PIn w' F v ps:=h.same fun k _ hk=>hg.block k hk (by simp)
theorem PIn.weak {w:World}{F G:Nat->Prop}{v:Value}{ps:List Nat}(h:PIn w F v ps)(hs:∀k,F k->k<w.heap.size->G k):PIn w G v ps:=by
 obtain ⟨ao,cap,h1,h2,h3,h4⟩:=h
 refine ⟨ao,cap,h1,h2,h3,fun j hj=>?_⟩
 obtain ⟨b,off,e,hc,hF⟩:=h4 j hj
 exact ⟨b,off,e,hc,hs b hF (cell_lt hc)⟩
theorem pin_open {w:World}{F:Nat->Prop}{v:Value}{ps:List Nat}(h:PIn w F v ps):∃ao n cap,v=.slice ao n cap/\ps.length=n/\n<=cap/\cap<=9223372036854775807/\Hid (PIn w F (.slice ao n cap) ps):=by
 have h':=h
 obtain ⟨ao,cap,rfl,h2,h3,_⟩:=h'
 unfold maxLen at h3
 exact ⟨ao,_,cap,rfl,rfl,h2,by omega,h⟩
theorem pin_at {w:World}{F:Nat->Prop}{ao:Option Addr}{n cap:Nat}{ps:List Nat}(h:PIn w F (.slice ao n cap) ps)(j:Nat)(hj:j<ps.length):∃b off,ao=some ⟨b,off,none⟩/\w.cell? ⟨b,off+j,none⟩=some (.pointer (some ⟨ps[j],0,none⟩)):=by
 obtain ⟨ao',cap',e,_,_,h4⟩:=h
 simp at e
 obtain ⟨rfl,rfl,rfl⟩:=e
 obtain ⟨b,off,e,hc,_⟩:=h4 j hj
 exact ⟨b,off,e,hc⟩
def Xu (ps:List Nat)(k:Nat)(W0 W1:World)(xs:Array Value):Prop:=W1=W0/\∃h:k<ps.length,xs=#[.int .i64 (k:Int),.pointer (some ⟨ps[k],0,none⟩)]
def Xt (rs:List PRow)(k:Nat)(W0 W1:World)(xs:Array Value):Prop:=∃(h:k<rs.length) (x y:Value),xs=#[x,y]/\Disk.Own W1 W0.heap.size x rs[k].1/\Disk.Own W1 W0.heap.size y rs[k].2
def AtsIn (w:World)(F:Nat->Prop)(qs:List Nat)(rs:List PRow):Prop:=qs.length=rs.length/\∀j (_:j<qs.length) (_:j<rs.length),F qs[j]/\∃k v,Blk w qs[j] 86 #[k,v]/\Disk.Own w 0 k rs[j].1/\Disk.Own w 0 v rs[j].2/\(∀b,k.ownBlock=some b->F b)/\(∀b,v.ownBlock=some b->F b)
theorem AtsIn.same {w w':World}{F:Nat->Prop}{qs:List Nat}{rs:List PRow}(h:AtsIn w F qs rs)(hs:∀k,F k->k<w.heap.size->w'.heap[k]? = w.heap[k]?):AtsIn w' F qs rs:=by
 refine ⟨h.1,fun j h1 h2=>?_⟩
 obtain ⟨hF,k,v,hb,hk,hv,f1,f2⟩:=h.2 j h1 h2
 exact ⟨hF,k,v,hb.same (hs _ hF hb.lt),hk.same fun g hg=>hs g (f1 g hg) (hk.lt g hg).2,hv.same fun g hg=>hs g (f2 g hg) (hv.lt g hg).2,f1,f2⟩
theorem AtsIn.grown {w w':World}{F:Nat->Prop}{qs:List Nat}{rs:List PRow}(h:AtsIn w F qs rs)(hg:w.grownBy w' none):AtsIn w' F qs rs:=h.same fun k _ hk=>hg.block k hk (by simp)
theorem AtsIn.tn {n0:Nat}{w w':World}{F:Nat->Prop}{qs:List Nat}{rs:List PRow}(h:AtsIn w F qs rs)(ht:Tn n0 w w'):AtsIn w' F qs rs:=by
 refine ⟨h.1,fun j h1 h2=>?_⟩
 obtain ⟨hF,k,v,hb,hk,hv,f1,f2⟩:=h.2 j h1 h2
 exact ⟨hF,k,v,ht.blk hb,ht.own hk,ht.own hv,f1,f2⟩
def RowsIn (w:World)(F:Nat->Prop)(v:Value)(l:List PRow):Prop:=∃ps,PIn w F v ps/\AtsIn w F ps l
theorem RowsIn.same {w w':World}{F:Nat->Prop}{v:Value}{l:List PRow}(h:RowsIn w F v l)(hs:∀k,F k->k<w.heap.size->w'.heap[k]? = w.heap[k]?):RowsIn w' F v l:=by
 obtain ⟨ps,h1,h2⟩:=h
 exact ⟨ps,h1.same hs,h2.same hs⟩
theorem RowsIn.grown {w w':World}{F:Nat->Prop}{v:Value}{l:List PRow}(h:RowsIn w F v l)(hg:w.grownBy w' none):RowsIn w' F v l:=h.same fun k _ hk=>hg.block k hk (by simp)
theorem rows_in {w:World}{v:Value}{l:List PRow}(h:Rows w v l)(G:Nat->Prop)(hG:∀k,G k->k<w.heap.size->∃t c,Blk w k t c/\t≠86/\t≠5/\∀(j p:Nat),c[j]?≠some (ptr p)):RowsIn w (fun k=>k<w.heap.size/\¬G k) v l:=by
 obtain ⟨ps,h1,h2⟩:=h
 refine ⟨ps,?_,h1.1,fun j a b=>?_⟩
 ·obtain ⟨ao,cap,e,c1,c2,c3,c4,c5⟩:=h2
  refine ⟨ao,cap,by rw [h1.1];exact e,by rw [h1.1];exact c1,c2,fun j hj=>?_⟩
  obtain ⟨g,off,eg,hc⟩:=c5 j (ptr ps[j]) (by simp [PTR,hj])
  refine ⟨g,off,eg,hc,cell_lt hc,fun hg=>?_⟩
  obtain ⟨t,c,hb,_,_,hp⟩:=hG g hg (cell_lt hc)
  rw [hb.cell] at hc
  exact hp _ _ hc
 ·obtain ⟨k,x,hb,hk,hx⟩:=h1.2 j a b
  have hof:∀{y:Value} {L:Bs},Disk.Own w 0 y L->∀g,y.ownBlock=some g->g<w.heap.size/\¬G g:=fun {y L} ho g hg=>by
   refine ⟨(ho.lt g hg).2,fun hgg=>?_⟩
   obtain ⟨t,c,hb,_,h5,_⟩:=hG g hgg (ho.lt g hg).2
   exact ho.other hb h5 hg
  refine ⟨⟨hb.lt,fun hgg=>?_⟩,k,x,hb,hk,hx,hof hk,hof hx⟩
  obtain ⟨t,c,hb2,h45,_,_⟩:=hG _ hgg hb.lt
  unfold Blk at hb hb2
  rw [hb] at hb2
  simp at hb2
  exact h45 hb2.2.symm
theorem all14 (tv:Value)(ht:∃a,tv=.pointer a)(w:World):Calls Tryz.prog 56 #[tv] w fun e w'=>e=.returned (.func (.func 81) #[] #[.pointer (some ⟨w.heap.size,0,none⟩)])/\Blk w' w.heap.size 92 #[tv]/\w.grownBy w' none/\w'.heap.size=w.heap.size+1:=by
 obtain ⟨a,rfl⟩:=ht
 go_enter Tryz.func56,Tryz.ntmps56
 go_wp2_with fail
 obtain ⟨w1,hw1,H1⟩:=al w #[.pointer a] 92
 rw [hw1]
 clear hw1
 go_ret
 exact ⟨rfl,H1.out.1,H1.out.2.1,H1.out.2.2⟩
theorem sall47 (v:Value)(hv:∃a n c,v=.slice a n c)(w:World):Calls Tryz.prog 83 #[v] w fun e w'=>e=.returned (.func (.func 108) #[] #[.pointer (some ⟨w.heap.size,0,none⟩)])/\Blk w' w.heap.size 123 #[v]/\w.grownBy w' none:=by
 obtain ⟨a,n,c,rfl⟩:=hv
 go_enter Tryz.func83,Tryz.ntmps83
 go_wp2_with fail
 obtain ⟨w1,hw1,H1⟩:=al w #[.slice a n c] 123
 rw [hw1]
 clear hw1
 go_ret
 exact ⟨rfl,H1.out.1,H1.out.2.1⟩
def Tf (w:World)(v:Value)(is:Bool)(f:Option Addr)(l:List PRow):Prop:=(is=true/\∃b cap,v=.pointer (some ⟨b,0,none⟩)/\Blk w b 128 #[.bool true,.slice f l.length cap]/\Rows w (.slice f l.length cap) l/\l.length<=cap)\/(is=false/\l=[]/\f=none/\NoTb w v)
theorem Tf.grown {w w':World}{v:Value}{is:Bool}{f:Option Addr}{l:List PRow}(h:Tf w v is f l)(hg:w.grownBy w' none):Tf w' v is f l:=by
 rcases h with ⟨h0,b,cap,h1,h2,h3,h4⟩ | ⟨h0,h1,h2,h3⟩
 ·exact .inl ⟨h0,b,cap,h1,h2.grown hg (by simp),h3.grown hg,h4⟩
 ·exact .inr ⟨h0,h1,h2,h3.grown hg⟩
theorem Tf.tl {w:World}{v:Value}{is:Bool}{f:Option Addr}{l:List PRow}(h:Tf w v is f l):Tl w v is l:=by
 rcases h with ⟨h0,b,cap,h1,h2,h3,_⟩ | ⟨h0,h1,_,h3⟩
 ·exact .inl ⟨h0,b,h1,_,h2,h3⟩
 ·exact .inr ⟨h0,h1,h3⟩
theorem tf_of {w:World}{v:Value}{is:Bool}{l:List PRow}(h:Tl w v is l):∃f,Tf w v is f l:=by
 rcases h with ⟨h0,b,h1,x,h2,h3⟩ | ⟨h0,h1,h3⟩
 ·obtain ⟨ao,n,cap,rfl,hn,hc,_,HR⟩:=rows_open h3
  subst hn
  exact ⟨ao,.inl ⟨h0,b,cap,h1,h2,HR.out,hc⟩⟩
 ·exact ⟨none,.inr ⟨h0,h1,rfl,h3⟩⟩
theorem Tf.rows {w:World}{v:Value}{is:Bool}{f:Option Addr}{l:List PRow}(h:Tf w v is f l)(n:Nat)(hn:n<=l.length):Rows w (.slice f n n) (l.take n):=by
 rcases h with ⟨h0,b,cap,h1,h2,h3,_⟩ | ⟨h0,rfl,rfl,h3⟩
 ·exact h3.first n hn
 ·have:n=0:=by simpa using hn
  subst this
  exact rows_nil w
theorem first52f (v:Value)(is:Bool)(f:Option Addr)(n:Nat)(l:List PRow)(w:World)(h:Tf w v is f l)(hn:n<=l.length):Calls Tryz.prog 96 #[v,.int .i64 (n:Int)] w fun e w'=>e=.returned (.slice f n n)/\w'=w:=by
 have h':=h
 rcases h with ⟨rfl,b,cap,rfl,hb,hr,hc⟩ | ⟨rfl,rfl,rfl,_⟩
 ·have c1:=hb.cell 1
  simp at c1
  obtain ⟨m,hm⟩:∃m,l.length=m:=⟨_,rfl⟩
  rw [hm] at hb c1 hn hc
  have HB:Hid (Blk w b 128 #[.bool true,.slice f m cap]):=hb
  have i0:(0:Int)<=(n:Int):=by omega
  have i1:(n:Int)<=(cap:Int):=by omega
  clear hb hr hm h' hn hc
  go_enter Tryz.func96,Tryz.ntmps96
  go_wp2_with (go_at_call 69;refine (there34 b true _ w HB.out).mono ?_;rintro e w1 ⟨rfl,hw⟩;rw [hw];clear hw)
  go_ret
  exact ⟨rfl,rfl⟩
 ·have HT:Hid (Tl w v false []):=h'.tl
  clear h'
  have hn0:n=0:=by simpa using hn
  subst hn0
  clear hn
  go_enter Tryz.func96,Tryz.ntmps96
  go_wp2_with (go_at_call 69;refine (there34g v false [] w HT.out).mono ?_;rintro e w1 ⟨rfl,hw⟩;rw [hw];clear hw)
  go_ret
  exact ⟨rfl,rfl⟩
theorem list35f (v:Value)(is:Bool)(f:Option Addr)(l:List PRow)(n:Nat)(hn:l.length=n)(w:World)(h:Tf w v is f l):Calls Tryz.prog 71 #[v] w fun e w'=>e=.returned (.slice f n n)/\w'=w:=by
 have HT:Hid (Tf w v is f l):=h
 have HN:Hid (l.length=n):=hn
 have HQ:Hid (Calls Tryz.prog 50 #[v] w fun e w'=>e=.returned (.int .i64 (n:Int))/\w'=w):=by rw [<-hn];exact len23g v is l w h.tl
 clear h hn
 go_enter Tryz.func71,Tryz.ntmps71
 go_wp2_with (go_at_call 50;refine HQ.out.mono ?_;rintro e w1 ⟨rfl,hw⟩;rw [hw];clear hw)
 refine (first52f v is f n l w HT.out (by rw [HN.out];omega)).mono ?_
 rintro e w1 ⟨rfl,hw⟩
 rw [hw]
 clear hw
 go_wp2_with fail
 go_ret
 exact ⟨rfl,rfl⟩
def Apart (w:World)(G:Nat->Prop):Prop:=∀k,G k->k<w.heap.size->∃t c,Blk w k t c/\t≠86/\t≠5/\∀(j p:Nat),c[j]?≠some (ptr p)
end Go.Proofs.YtakmlhhapegpoaaGreat.Table
