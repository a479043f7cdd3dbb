import Derived.Test.YtanoabliahcbeaaGreatLakAll
set_option maxHeartbeats 8000000
set_option maxRecDepth 100000
namespace Go.Proofs.YtanoabliahcbeaaGreat.Wn
open Go.RowKit Disk Table
open _root_.Go.Proofs.YtanoabliahcbeaaGreat.Calls _root_.Go.Proofs.YtanoabliahcbeaaGreat.Command
variable {s:CS}
structure Dr where
 id:Int
 num:Int
 tm:Int
 was:Bool
 ops:List POp
def numG (k:Nat)(c:Cr):List Dr:=[⟨c.id,((k+1:Nat):Int),c.tm,c.was,c.ops⟩]
def waitD (c:Cr):Dr:=⟨c.id,0,0,false,c.ops⟩
def CS.dcs (s:CS):List Dr:=gather numG s.L s.L.length ++ s.wt.map waitD
def mstep (m:Int)(r:Dr):Int:=if 0<r.num/\r.num<=m then r.num-1 else m
theorem mark_nums (L:List (Option Cr)):∀k,k<=L.length->(gather numG L k).foldl mstep (L.length:Nat)=if k<=lead L then ((L.length:Nat):Int) else ((lead L:Nat):Int)
 | 0,_=>by rw [gather,if_pos (Nat.zero_le _)];rfl
 | k+1,h=>by
  rw [gather,List.foldl_append,mark_nums L k (by omega)]
  have hlow:=lead_low L
  cases e:L[k]? with
  | none=>rw [List.getElem?_eq_getElem (by omega)] at e;cases e
  | some o =>
   cases o with
   | none =>
    simp only [List.foldl_nil]
    by_cases h1:k+1<=lead L
    ·rw [if_pos (by omega),if_pos h1]
    ·by_cases h2:k<=lead L
     ·have hk:k=lead L:=by omega
      rcases lead_next L with h3 | ⟨t,h3⟩
      ·omega
      ·rw [<-hk,e] at h3
       cases h3
     ·rw [if_neg h2,if_neg h1]
   | some c =>
    have h1:¬k<lead L:=fun hk=>by rw [hlow k hk] at e;cases e
    rw [if_neg (by omega:¬k+1<=lead L)]
    simp only [numG,List.foldl_cons,List.foldl_nil,mstep]
    by_cases h2:k<=lead L
    ·rw [if_pos h2,if_pos (by omega)]
     omega
    ·rw [if_neg h2,if_neg (by omega)]
theorem mark_waits (m:Int)(l:List Cr):(l.map waitD).foldl mstep m=m:=by
 induction l with
 | nil=>rfl
 | cons c r ih =>
  rw [List.map_cons,List.foldl_cons]
  have:mstep m (waitD c)=m:=by
   unfold mstep waitD
   simp
  rw [this]
  exact ih
theorem mark_doc (s:CS):s.dcs.foldl mstep (s.L.length:Nat)=((lead s.L:Nat):Int):=by
 unfold CS.dcs
 rw [List.foldl_append,mark_waits,mark_nums s.L _ (Nat.le_refl _)]
 have:=lead_le s.L
 split
 ·omega
 ·rfl
theorem mstep_range {m:Int}{l:List Dr}(hm:0<=m):0<=l.foldl mstep m/\l.foldl mstep m<=m:=by
 induction l generalizing m with
 | nil=>exact ⟨hm,Int.le_refl _⟩
 | cons r l ih =>
  rw [List.foldl_cons]
  have h1:0<=mstep m r/\mstep m r<=m:=by unfold mstep;split <;> omega
  have:=ih h1.1
  omega
theorem dcs_len (s:CS):s.dcs.length<=s.L.length+s.wt.length:=by
 unfold CS.dcs
 rw [List.length_append,List.length_map]
 have:=gather_len (g:=numG) (L:=s.L) (fun k c=>Nat.le_refl 1) s.L.length
 omega
theorem dcs_mem {r:Dr}(h:r ∈ s.dcs):(∃(k:Nat) (c:Cr),k<s.L.length/\s.L[k]? = some (some c)/\r=⟨c.id,((k+1:Nat):Int),c.tm,c.was,c.ops⟩)\/∃c ∈ s.wt,r=waitD c:=by
 unfold CS.dcs at h
 rcases List.mem_append.1 h with h | h
 ·obtain ⟨k,c,h1,h2,h3⟩:=mem_gather h
  simp [numG] at h3
  exact .inl ⟨k,c,h1,h2,by rw [h3];simp⟩
 ·obtain ⟨c,h1,h2⟩:=List.mem_map.1 h
  exact .inr ⟨c,h1,h2.symm⟩
theorem dcs_num {r:Dr}(h:r ∈ s.dcs):0<=r.num/\r.num<=(s.L.length:Nat):=by
 rcases dcs_mem h with ⟨k,c,h1,_,rfl⟩ | ⟨c,_,rfl⟩
 ·dsimp only
  omega
 ·simp [waitD]
theorem gone_rets (s:CS):(s.dcs.filter fun r=>decide (0<r.num)).map (fun r=>(⟨r.id,2,[]⟩:PRet))=s.rets (fun _=>true) 2 []:=by
 have key:∀k,((gather numG s.L k).filter fun r=>decide (0<r.num)).map (fun r=>(⟨r.id,2,[]⟩:PRet))=gather (endG (fun _=>true) 2 []) s.L k:=by
  intro k
  induction k with
  | zero=>rfl
  | succ k ih =>
   rw [gather,gather,List.filter_append,List.map_append,ih]
   cases s.L[k]? with
   | none=>rfl
   | some o =>
    cases o with
    | none=>rfl
    | some c =>
     have:decide (0<((k+1:Nat):Int))=true:=by simp
     simp [numG,endG]
 unfold CS.dcs CS.rets
 rw [List.filter_append,List.map_append,key]
 have:(s.wt.map waitD).filter (fun r=>decide (0<r.num))=[]:=by
  rw [List.filter_eq_nil_iff]
  intro r hr
  obtain ⟨c,_,rfl⟩:=List.mem_map.1 hr
  simp [waitD]
 rw [this]
 simp
theorem gone_rest (s:CS):s.dcs.filter (fun r=>!decide (0<r.num))=s.lost.dcs:=by
 unfold CS.dcs
 rw [List.filter_append]
 have h1:(gather numG s.L s.L.length).filter (fun r=>!decide (0<r.num))=[]:=by
  rw [List.filter_eq_nil_iff]
  intro r hr
  obtain ⟨k,c,_,_,h⟩:=mem_gather hr
  simp [numG] at h
  rw [h]
  simp
 have h2:(s.wt.map waitD).filter (fun r=>!decide (0<r.num))=s.wt.map waitD:=by
  rw [List.filter_eq_self]
  intro r hr
  obtain ⟨c,_,rfl⟩:=List.mem_map.1 hr
  simp [waitD]
 rw [h1,h2]
 simp [CS.lost,gather]
theorem opens_doc (s:CS):s.dcs.map (fun r=>(⟨r.id,r.num,r.tm⟩:PSent))=s.opens:=by
 have key:∀k,(gather numG s.L k).map (fun r=>(⟨r.id,r.num,r.tm⟩:PSent))=gather openG s.L k:=by
  intro k
  induction k with
  | zero=>rfl
  | succ k ih =>
   rw [gather,gather,List.map_append,ih]
   cases s.L[k]? with
   | none=>rfl
   | some o =>
    cases o with
    | none=>rfl
    | some c=>rfl
 unfold CS.dcs CS.opens
 rw [List.map_append,key,List.map_map]
 rfl
theorem put_doc (o:Option Addr)(n c:Nat)(ops:List POp):(s.id.put ⟨s.last+1,o,n,c,ops,false,0⟩).dcs=s.dcs ++ [⟨s.last+1,0,0,false,ops⟩]:=by
 simp [CS.dcs,CS.put,CS.id,waitD]
variable {s:CS}
theorem nums_rise (L:List (Option Cr)):∀k,(gather numG L k).Pairwise (fun a b=>a.num<b.num)/\∀r ∈ gather numG L k,r.num<=(k:Int)/\0<r.num
 | 0=>⟨List.Pairwise.nil,fun r h=>by simp [gather] at h⟩
 | k+1=>by
  obtain ⟨h1,h2⟩:=nums_rise L k
  rw [gather]
  cases L[k]? with
  | none=>exact ⟨by simpa using h1,fun r h=>by have:=h2 r (by simpa using h);omega⟩
  | some o =>
   cases o with
   | none=>exact ⟨by simpa using h1,fun r h=>by have:=h2 r (by simpa using h);omega⟩
   | some c =>
    refine ⟨List.pairwise_append.2 ⟨h1,List.pairwise_singleton _ _,fun a ha b hb=>?_⟩,fun r hr=>?_⟩
    ·have:=h2 a ha
     simp [numG] at hb
     rw [hb]
     dsimp only
     omega
    ·rcases List.mem_append.1 hr with hr | hr
     ·have:=h2 r hr
      omega
     ·simp [numG] at hr
      rw [hr]
      dsimp only
      omega
theorem dcs_rise (s:CS):s.dcs.Pairwise (fun a b=>0<b.num->a.num≠b.num):=by
 unfold CS.dcs
 obtain ⟨h1,h2⟩:=nums_rise s.L s.L.length
 refine List.pairwise_append.2 ⟨h1.imp fun h _=>by omega,List.pairwise_map.2 ?_,fun a ha b hb h=>?_⟩
 ·exact List.pairwise_of_forall fun a b h=>by simp [waitD] at h
 ·obtain ⟨c,_,rfl⟩:=List.mem_map.1 hb
  simp [waitD] at h
theorem ended_nums (L:List (Option Cr))(P:Nat->Bool)(n:Int)(hP:∀k,P k=decide (n=((k+1:Nat):Int))):∀k,k<=L.length->gather numG (mapUp (endF P) L L.length) k=(gather numG L k).filter (fun r=>!decide (r.num=n))
 | 0,_=>rfl
 | k+1,h=>by
  rw [gather,gather,List.filter_append,ended_nums L P n hP k (by omega),mapUp_get]
  have hk:k<L.length:=by omega
  cases e:L[k]? with
  | none=>simp
  | some o =>
   cases o with
   | none=>simp
   | some c =>
    simp only [Option.map_some,hk,if_true,Option.bind_some,endF,hP k]
    by_cases hn:n=((k+1:Nat):Int)
    ·have:decide (((k+1:Nat):Int)=n)=true:=by simp [hn]
     simp [hn,numG]
    ·have h1:decide (n=((k+1:Nat):Int))=false:=by simp;omega
     have h2:decide (((k+1:Nat):Int)=n)=false:=by simp;omega
     rw [h1]
     simp only [numG,List.filter_cons,h2]
     simp
theorem ended_doc (s:CS)(P:Nat->Bool)(n:Int)(hn:0<n)(hP:∀k,P k=decide (n=((k+1:Nat):Int))):(s.ended P).dcs=s.dcs.filter (fun r=>!decide (r.num=n)):=by
 unfold CS.dcs
 rw [List.filter_append]
 have e1:(s.ended P).L=mapUp (endF P) s.L s.L.length:=rfl
 have e2:(s.ended P).wt=s.wt:=rfl
 have e3:(s.wt.map waitD).filter (fun r=>!decide (r.num=n))=s.wt.map waitD:=by
  rw [List.filter_eq_self]
  intro r hr
  obtain ⟨c,_,rfl⟩:=List.mem_map.1 hr
  show (!decide ((0:Int)=n))=true
  rw [decide_eq_false (by omega)]
  rfl
 rw [e1,e2,e3,mapUp_len,ended_nums s.L P n hP _ (Nat.le_refl _)]
theorem rets_doc (s:CS)(P:Nat->Bool)(n:Int)(hn:0<n)(hP:∀k,P k=decide (n=((k+1:Nat):Int)))(what:Int)(ans:Bs):s.rets P what ans=(s.dcs.filter (fun r=>decide (r.num=n))).map fun r=>⟨r.id,what,ans⟩:=by
 have key:∀k,gather (endG P what ans) s.L k=((gather numG s.L k).filter (fun r=>decide (r.num=n))).map fun r=>⟨r.id,what,ans⟩:=by
  intro k
  induction k with
  | zero=>rfl
  | succ k ih =>
   rw [gather,gather,List.filter_append,List.map_append,ih]
   cases s.L[k]? with
   | none=>rfl
   | some o =>
    cases o with
    | none=>rfl
    | some c =>
     simp only [endG,hP k,numG,List.filter_cons,List.filter_nil]
     by_cases h:n=((k+1:Nat):Int)
     ·simp [h]
     ·have h2:¬((k+1:Nat):Int)=n:=by omega
      simp only [decide_eq_false h,decide_eq_false h2]
      simp
 unfold CS.rets CS.dcs
 rw [List.filter_append,List.map_append,key]
 have:(s.wt.map waitD).filter (fun r=>decide (r.num=n))=[]:=by
  rw [List.filter_eq_nil_iff]
  intro r hr
  obtain ⟨c,_,rfl⟩:=List.mem_map.1 hr
  show ¬decide ((0:Int)=n)=true
  rw [decide_eq_false (by omega)]
  decide
 rw [this]
 simp
theorem dcs_split {n:Int}(hn:0<n){j:Nat}(hj:j<s.dcs.length)(hx:s.dcs[j].num=n):s.dcs.filter (fun r=>!decide (r.num=n))=s.dcs.take j ++ s.dcs.drop (j+1)/\s.dcs.filter (fun r=>decide (r.num=n))=[s.dcs[j]]:=by
 have hs:s.dcs=s.dcs.take j ++ s.dcs[j] :: s.dcs.drop (j+1):=by simp
 have hp:=dcs_rise s
 generalize s.dcs[j]=x at hs hx ⊢
 generalize s.dcs.take j=T at hs ⊢
 generalize s.dcs.drop (j+1)=D at hs ⊢
 rw [hs] at hp ⊢
 subst hx
 obtain ⟨_,h2,h3⟩:=List.pairwise_append.1 hp
 have h1:∀r ∈ T,decide (r.num=x.num)=false:=fun r hr=>decide_eq_false (h3 r hr x List.mem_cons_self hn)
 have h4:∀r ∈ D,decide (r.num=x.num)=false:=fun r hr=>decide_eq_false fun e=>(List.pairwise_cons.1 h2).1 r hr (by omega) e.symm
 have k1:T.filter (fun r=>!decide (r.num=x.num))=T:=List.filter_eq_self.2 fun r hr=>by rw [h1 r hr];rfl
 have k2:D.filter (fun r=>!decide (r.num=x.num))=D:=List.filter_eq_self.2 fun r hr=>by rw [h4 r hr];rfl
 have k3:T.filter (fun r=>decide (r.num=x.num))=[]:=List.filter_eq_nil_iff.2 fun r hr=>by rw [h1 r hr];simp
 have k4:D.filter (fun r=>decide (r.num=x.num))=[]:=List.filter_eq_nil_iff.2 fun r hr=>by rw [h4 r hr];simp
 have hd:decide (x.num=x.num)=true:=by simp
 constructor
 ·rw [List.filter_append,k1,List.filter_cons,hd,k2]
  rfl
 ·rw [List.filter_append,k3,List.filter_cons,hd,k4]
  rfl
variable {s:CS} {w A A':World} {k:Nat} {c:PCfg} {v:Value}
def drR (w:World)(x:List Value)(r:Dr):Prop:=∃ov,x=[.int .i64 r.id,.int .i64 r.num,.int .i64 r.tm,.bool r.was,ov]/\OpsOwn w 0 ov r.ops
theorem drR_stab:Stab (fun t=>t=5\/t=109) drR:=by
 refine ⟨fun w w' vs x h hg=>?_,fun w w' vs x g t cur h hb ht hg=>?_⟩
 ·obtain ⟨ov,e,h1⟩:=h
  exact ⟨ov,e,h1.grown hg⟩
 ·obtain ⟨ov,e,h1⟩:=h
  exact ⟨ov,e,h1.set hb (fun e=>ht (.inr e)) (fun e=>ht (.inl e)) hg⟩
def DRow (w:World)(B:Nat)(v:Value)(l:List Dr):Prop:=LRow 93 5 drR w B v l
def DT (t:Nat):Prop:=t=51\/t=93
def DB (A:World)(i:Nat):Prop:=∃t c,Blk A i t c/\DT t
def KeepD (A A':World):Prop:=Fr A A' (DB A)
theorem db_gt (A:World):Gt A (DB A):=fun i ⟨t,c,hb,hk⟩=>⟨t,c,hb,by rcases hk with rfl | rfl <;> decide,by rcases hk with rfl | rfl <;> decide⟩
theorem keepD_grown (hg:A.grownBy A' none):KeepD A A':=Fr.of hg (by simp)
theorem keepD_trans {A B C:World}(h:KeepD A B)(k:KeepD B C):KeepD A C:=by
 refine Fr.trans h k fun i hi=>?_
 obtain ⟨t,c,hb,hk⟩:=hi
 rcases Nat.lt_or_ge i A.heap.size with hlt | hge
 ·by_cases e:DB A i
  ·exact .inl e
  ·exact .inl ⟨t,c,(h.block i hlt e).symm.trans hb,hk⟩
 ·exact .inr hge
def docC (s:CS)(c:PCfg)(v:Value):Array Value:=#[.int .i64 s.num,.int .i64 c.rows,.int .i64 c.bytes,.int .i64 s.size,.int .i64 c.queue,.int .i64 s.most,.int .i64 s.tmo,.int .i64 c.idle,.int .i64 c.log,.int .i64 s.last,v,.int .i64 s.ses,.int .i64 s.tok,.bool s.asked,.int .i64 s.askAt,.int .i64 s.now,.int .i64 (s.L.length:Nat)]
structure Dm (w A:World)(k:Nat)(c:PCfg)(v:Value)(s:CS):Prop where
 blk:Blk A k 51 (docC s c v)
 row:DRow A w.heap.size v s.dcs
 lo:w.heap.size<=k
 gr:w.grownBy A none
def Doc (w A:World)(k:Nat)(c:PCfg)(s:CS):Prop:=∃v,Dm w A k c v s
theorem DRow.fr {G:Nat->Prop}{B:Nat}{l:List Dr}(h:DRow A B v l)(hf:Fr A A' G)(hG:Gt A G)(hv:∀k,v.ownBlock=some k->¬G k):DRow A' B v l:=by
 obtain ⟨vs,h1,h2,h3,h4⟩:=h
 refine ⟨vs,owns_fr h1 hf hv,h2,h3,fun j a b=>?_⟩
 obtain ⟨ov,e,ho⟩:=h4 j a b
 exact ⟨ov,e,opsOwn_fr ho hf hG⟩
theorem DRow.blk {B:Nat}{l:List Dr}(h:DRow A B v l):∀k,v.ownBlock=some k->B<=k/\∃C,Blk A k 93 C:=fun k hk=>by
 refine ⟨(LRow.lt h k hk).1,?_⟩
 obtain ⟨vs,h1,_⟩:=h
 exact owns_blk h1 hk
theorem Dm.grown (h:Dm w A k c v s)(hg:A.grownBy A' none):Dm w A' k c v s:=⟨h.blk.grown hg (by simp),LRow.grown h.row drR_stab hg,h.lo,grown_trans h.gr hg⟩
theorem Dm.beside {G:Nat->Prop}(h:Dm w A k c v s)(hf:Fr A A' G)(hG:Gt A G)(hd:∀i,G i->∃t cc,Blk A i t cc/\¬DT t)(hgr:w.grownBy A' none):Dm w A' k c v s:=by
 refine ⟨h.blk.same (hf.block k h.blk.lt fun hk=>?_),h.row.fr hf hG fun j hj hk=>?_,h.lo,hgr⟩
 ·obtain ⟨t,cc,hb,ht⟩:=hd k hk
  exact ht (blk_type h.blk hb ▸ .inl rfl)
 ·obtain ⟨t,cc,hb,ht⟩:=hd j hk
  obtain ⟨C,hC⟩:=(h.row.blk j hj).2
  exact ht (blk_type hC hb ▸ .inr rfl)
theorem Dm.cell {j:Nat}(h:Dm w A k c v s):A.cell? ⟨k,j,none⟩=(docC s c v)[j]?:=h.blk.cell j
theorem Dm.sl (h:Dm w A k c v s):∃ao cap,v=.slice ao s.dcs.length cap:=LRow.shape h.row
theorem drow_at {B:Nat}{l:List Dr}(h:DRow A B v l)(j:Nat)(hj:j<l.length):∃g cap y1 y2 y3,v=.slice (some ⟨g,0,none⟩) l.length cap/\A.cell? ⟨g,j*5,none⟩=some (.int .i64 l[j].id)/\A.cell? ⟨g,j*5+1,none⟩=some (.int .i64 l[j].num)/\A.cell? ⟨g,j*5+2,none⟩=some (.int .i64 l[j].tm)/\A.cell? ⟨g,j*5+3,none⟩=some (.bool l[j].was)/\A.cell? ⟨g,j*5+4,none⟩=some (.slice y1 y2 y3)/\OpsOwn A 0 (.slice y1 y2 y3) l[j].ops:=by
 obtain ⟨g,cap,cs,e,hl,⟨ov,rfl,ho⟩,_,_,hc⟩:=LRow.cell h j hj
 obtain ⟨y1,y2,y3,rfl,_⟩:=ho.slice
 exact ⟨g,cap,y1,y2,y3,e,hc 0 (by decide),hc 1 (by decide),hc 2 (by decide),hc 3 (by decide),hc 4 (by decide),ho⟩
theorem rmark37 (A:World)(h:Dm w A k c v s)(hok:Okc s):Calls Tryz.prog 37 #[.pointer (some ⟨k,0,none⟩)] A fun e A'=>e=.returned (.int .i64 (lead s.L:Nat))/\A.grownBy A' none:=by
 have HD:Hid (Dm w A k c v s/\Okc s):=⟨h,hok⟩
 have c11:A.cell? ⟨k,11,none⟩=some (.int .i64 s.ses):=h.blk.cell 11
 by_cases h0:s.ses=0
 ·have hl:lead s.L=0:=by rw [hok.none h0];rfl
  rw [h0] at c11
  clear h hok h0
  go_enter Tryz.func37,Tryz.ntmps37
  go_wp2_with fail
  go_ret
  exact ⟨by rw [hl];rfl,grown_refl _ _⟩
 ·have hs:(s.ses==0)=false:=by rw [beq_eq_false_iff_ne];exact h0
  obtain ⟨ao,cap,rfl⟩:=h.sl
  obtain ⟨n,hn⟩:∃n,s.dcs.length=n:=⟨_,rfl⟩
  have HN:Hid (s.dcs.length=n/\n<=1000000000000):=⟨hn,by have:=dcs_len s;have:=hok.last;omega⟩
  have c10:A.cell? ⟨k,10,none⟩=some (.slice ao n cap):=by rw [<-hn];exact h.blk.cell 10
  have c16:A.cell? ⟨k,16,none⟩=some (.int .i64 (s.L.length:Nat)):=h.blk.cell 16
  clear h hok h0 hn
  go_enter Tryz.func37,Tryz.ntmps37
  go_wp2_with fail
  go_loopw [3,4] (fun m q wr=>∃j:Nat,q=.int .i64 (j:Nat)/\j<=n/\m=.int .i64 ((s.dcs.take j).foldl mstep (s.L.length:Nat))/\Hid (A.grownBy wr none)) (fun _ q _=>n-(intOf q).toNat)
  case atStart=>exact ⟨0,rfl,Nat.zero_le _,rfl,grown_refl _ _⟩
  case round =>
   obtain ⟨j,rfl,hj,rfl,G⟩:=hrel
   replace c10:=G.out.cell c10 (by simp)
   by_cases hlt:j<n
   ·have i1:(j:Int)<(n:Int):=by omega
    have i2:(0:Int)<=(j:Int):=by omega
    have HLJ:Hid (j<n):=hlt
    have d1:IntKind.i64.wrap ((j:Int)+1)=(j:Int)+1:=by have:=HN.out;rw [IntKind.wrap_i64];omega
    have hjl:j<s.dcs.length:=by have:=HN.out.1;omega
    obtain ⟨g,cap',y1,y2,y3,e,q0,q1,q2,q3,q4,q5⟩:=drow_at HD.out.1.row j hjl
    clear q0 q2 q3 q4 q5
    simp at e
    obtain ⟨rfl,rfl⟩:=e
    have hm:=mstep_range (m:=(s.L.length:Nat)) (l:=s.dcs.take j) (by omega)
    have hr:=dcs_num (List.getElem_mem hjl)
    have hL:s.L.length<=1000000000000:=by have:=HD.out.2.last;omega
    have hnx:(s.dcs.take (j+1)).foldl mstep (s.L.length:Nat)=mstep ((s.dcs.take j).foldl mstep (s.L.length:Nat)) s.dcs[j]:=by
     rw [List.take_succ_eq_append_getElem hjl,List.foldl_append]
     rfl
    obtain ⟨m,hm'⟩:∃m,(s.dcs.take j).foldl mstep (s.L.length:Nat)=m:=⟨_,rfl⟩
    obtain ⟨x,hx⟩:∃x,s.dcs[j].num=x:=⟨_,rfl⟩
    have hnx':(s.dcs.take (j+1)).foldl mstep (s.L.length:Nat)=if 0<x/\x<=m then x-1 else m:=by rw [hnx,hm',<-hx];rfl
    rw [hm'] at hm ⊢
    rw [hx] at q1 hr
    replace q1:=G.out.cell q1 (by simp)
    have d2:IntKind.i64.wrap (x-1)=x-1:=by rw [IntKind.wrap_i64];omega
    clear hnx hm' hx hjl
    have HX:Hid _:=hnx'
    clear hnx'
    by_cases x1:0<x
    ·by_cases x2:x<=m
     ·have HE:Hid ((if 0<x/\x<=m then x-1 else m)=x-1):=if_pos ⟨x1,x2⟩
      go_wp2_with fail
      go_roundw
      case rel=>exact ⟨j+1,by go_num,by have:=HLJ.out;omega,by rw [HX.out,HE.out],G⟩
      case measure=>have:=HLJ.out;simp [intOf];omega
     ·have HE:Hid ((if 0<x/\x<=m then x-1 else m)=m):=if_neg fun e=>x2 e.2
      go_wp2_with fail
      go_roundw
      case rel=>exact ⟨j+1,by go_num,by have:=HLJ.out;omega,by rw [HX.out,HE.out],G⟩
      case measure=>have:=HLJ.out;simp [intOf];omega
    ·have HE:Hid ((if 0<x/\x<=m then x-1 else m)=m):=if_neg fun e=>x1 e.1
     go_wp2_with fail
     go_roundw
     case rel=>exact ⟨j+1,by go_num,by have:=HLJ.out;omega,by rw [HX.out,HE.out],G⟩
     case measure=>have:=HLJ.out;simp [intOf];omega
   ·have i1:¬(j:Int)<(n:Int):=by omega
    have hjn:j=s.dcs.length:=by have:=HN.out.1;omega
    have hf:(s.dcs.take j).foldl mstep (s.L.length:Nat)=((lead s.L:Nat):Int):=by rw [hjn,List.take_length];exact mark_doc s
    rw [hf]
    go_wp2_with fail
    go_ret
    exact ⟨rfl,G.out⟩
variable {s:CS} {w A A':World} {k:Nat} {c:PCfg} {v:Value}
theorem info93:(Tryz.prog.info? 93).map (fun i=>(i.zero,i.size,i.bytes))=some (some (.agg #[.int .i64 0,.int .i64 0,.int .i64 0,.bool false,.slice none 0 0]),5,56):=by kernel_rfl
theorem rrenew46 (k:Nat)(x0 x1 x2 x3 x4 x5 x6 x7 x8 x9 x10 x11 x13 x14 x15 x16:Value)(t:Int)(A:World)(hb:Blk A k 51 #[x0,x1,x2,x3,x4,x5,x6,x7,x8,x9,x10,x11,.int .i64 t,x13,x14,x15,x16])(h1:0<=t/\t<=4000000000000000) :
  Calls Tryz.prog 46 #[.pointer (some ⟨k,0,none⟩)] A fun e A'=>(∃y,e=.returned y)/\Blk A' k 51 #[x0,x1,x2,x3,x4,x5,x6,x7,x8,x9,x10,x11,.int .i64 (t+8),.bool false,.int .i64 0,x15,x16]/\A.grownBy A' (some k):=by
 have d1:IntKind.i64.wrap (t+8)=t+8:=by rw [IntKind.wrap_i64];omega
 have c4:A.cell? ⟨k,12,none⟩=some (.int .i64 t):=hb.cell 12
 have c5:A.cell? ⟨k,13,none⟩=some x13:=hb.cell 13
 have c6:A.cell? ⟨k,14,none⟩=some x14:=hb.cell 14
 have f4:=hb.free 12
 have f5:=hb.free 13
 have f6:=hb.free 14
 have HB:Hid (Blk (((A.setCell ⟨k,12,none⟩ (.int .i64 (t+8))).setCell ⟨k,13,none⟩ (.bool false)).setCell ⟨k,14,none⟩ (.int .i64 0)) k 51 #[x0,x1,x2,x3,x4,x5,x6,x7,x8,x9,x10,x11,.int .i64 (t+8),.bool false,.int .i64 0,x15,x16]/\A.grownBy (((A.setCell ⟨k,12,none⟩ (.int .i64 (t+8))).setCell ⟨k,13,none⟩ (.bool false)).setCell ⟨k,14,none⟩ (.int .i64 0)) (some k)) :=
  ⟨((hb.store 12 _).store 13 _).store 14 _,grown_trans (grown_setCell _ _ _ _) (grown_trans (grown_setCell _ _ _ _) (grown_setCell _ _ _ _))⟩
 clear hb h1
 go_enter Tryz.func46,Tryz.ntmps46
 go_wp2_with fail
 exact ⟨rfl,_,results_none rfl _ _ _,⟨_,rfl⟩,HB.out⟩
def RNewC (w:World)(n:Int)(c:PCfg)(A:World)(e:Ending)(A':World):Prop :=
 A.grownBy A' none/\((okNew n c=false/\e=.returned (.pointer none))\/(okNew n c=true/\∃k,e=.returned (.pointer (some ⟨k,0,none⟩))/\Doc w A' k c (fresh n c)))
theorem fresh_doc {n:Int}(h:okNew n c=true)(hg:w.grownBy A none)(hk:w.heap.size<=k)(hb:Blk A k 51 #[.int .i64 n,.int .i64 c.rows,.int .i64 c.bytes,.int .i64 c.window,.int .i64 c.queue,.int .i64 c.wait,.int .i64 c.timeout,.int .i64 c.idle,.int .i64 c.log,.int .i64 0,.slice none 0 0,.int .i64 0,.int .i64 (n+1),.bool false,.int .i64 0,.int .i64 0,.int .i64 0]):Doc w A k c (fresh n c):=by
 refine ⟨.slice none 0 0,?_,lrow_nil _ _,hk,hg⟩
 simp only [okNew,Bool.and_eq_true,decide_eq_true_eq] at h
 have hm:=may_bounds h.2
 have e1:((n.toNat:Nat):Int)=n:=by omega
 have e2:((c.window.toNat:Nat):Int)=c.window:=by omega
 have e3:((c.wait.toNat:Nat):Int)=c.wait:=by omega
 have e4:((c.timeout.toNat:Nat):Int)=c.timeout:=by omega
 simp only [docC,fresh,e1,e2,e3,e4]
 exact hb
theorem rnew7 (n:Int)(c:PCfg)(w A:World)(hw:w.grownBy A none):Calls Tryz.prog 7 #[.int .i64 n,cfgV c] A (RNewC w n c A):=by
 have HJ:Hid (∀w,Calls Tryz.prog 28 #[cfgV c] w fun e w'=>e=.returned (.bool (mayCfg c))/\w.grownBy w' none):=job28 c
 have HW0:Hid (w.grownBy A none):=hw
 clear hw
 obtain ⟨d,hd⟩:∃d,mayCfg c=d:=⟨_,rfl⟩
 have HD:Hid (mayCfg c=d):=hd
 clear hd
 unfold cfgV at HJ ⊢
 by_cases h1:n<0
 ·have HN:Hid (okNew n c=false):=by simp [Hid,okNew];omega
  go_enter Tryz.func7,Tryz.ntmps7
  go_upto_region 1 with fail
  obtain ⟨w1,hw1,H1⟩:=al1 A (cfgC c) 25
  unfold cfgC at hw1
  rw [hw1]
  clear hw1
  go_wp2_with fail
  go_ret
  exact ⟨H1.out.2.1,.inl ⟨HN.out,rfl⟩⟩
 ·by_cases h2:n<8
  ·have e1:IntKind.i64.wrap (n+1)=n+1:=by rw [IntKind.wrap_i64];omega
   have h3:¬8<=n:=by omega
   have HN:Hid (okNew n c=d):=by simp [Hid,okNew,HD.out];omega
   go_enter Tryz.func7,Tryz.ntmps7
   go_upto_region 1 with fail
   obtain ⟨w1,hw1,H1⟩:=al1 A (cfgC c) 25
   unfold cfgC at hw1 H1
   rw [hw1]
   clear hw1
   obtain ⟨k0,k1,k2,k3,k4,k5,k6,k7⟩:=cells8 H1.out.1
   go_wp2_with fail
   refine (HJ.out w1).mono ?_
   rintro e w2 ⟨rfl,hg2⟩
   rw [HD.out]
   have H2:Hid (Blk w2 A.heap.size 25 #[.int .i64 c.rows,.int .i64 c.bytes,.int .i64 c.window,.int .i64 c.queue,.int .i64 c.wait,.int .i64 c.timeout,.int .i64 c.idle,.int .i64 c.log]/\A.grownBy w2 none):=⟨H1.out.1.grown hg2 (by simp),grown_trans H1.out.2.1 hg2⟩
   clear k0 k1 k2 k3 k4 k5 k6 k7 hg2 H1
   cases d
   case false =>
    go_wp2_with fail
    go_ret
    exact ⟨H2.out.2,.inl ⟨HN.out,rfl⟩⟩
   case true =>
    obtain ⟨k0,k1,k2,k3,k4,k5,k6,k7⟩:=cells8 H2.out.1
    obtain ⟨w3,hw3,H3⟩:=al1 w2 #[.int .i64 n,.int .i64 c.rows,.int .i64 c.bytes,.int .i64 c.window,.int .i64 c.queue,.int .i64 c.wait,.int .i64 c.timeout,.int .i64 c.idle,.int .i64 c.log,.int .i64 0,.slice none 0 0,.int .i64 0,.int .i64 (n+1),.bool false,.int .i64 0,.int .i64 0,.int .i64 0] 51
    have HW:Hid (w2.alloc (.cells #[.int .i64 n,.int .i64 c.rows,.int .i64 c.bytes,.int .i64 c.window,.int .i64 c.queue,.int .i64 c.wait,.int .i64 c.timeout,.int .i64 c.idle,.int .i64 c.log,.int .i64 0,.slice none 0 0,.int .i64 0,.int .i64 (n+1),.bool false,.int .i64 0,.int .i64 0,.int .i64 0] 51)=w3):=hw3
    clear hw3
    go_wp2_with fail
    try rw [HW.out]
    go_ret
    exact ⟨grown_trans H2.out.2 H3.out.2.1,.inr ⟨HN.out,_,rfl,fresh_doc HN.out (grown_trans HW0.out (grown_trans H2.out.2 H3.out.2.1)) (grown_trans HW0.out H2.out.2).size H3.out.1⟩⟩
  ·have HN:Hid (okNew n c=false):=by simp [Hid,okNew];omega
   have h3:8<=n:=by omega
   go_enter Tryz.func7,Tryz.ntmps7
   go_upto_region 1 with fail
   obtain ⟨w1,hw1,H1⟩:=al1 A (cfgC c) 25
   unfold cfgC at hw1
   rw [hw1]
   clear hw1
   go_wp2_with fail
   go_ret
   exact ⟨H1.out.2.1,.inl ⟨HN.out,rfl⟩⟩
variable {s:CS} {w A A':World} {k:Nat} {c:PCfg} {v:Value}
def gR (l:List Dr):List PRet:=(l.filter fun r=>decide (0<r.num)).map fun r=>⟨r.id,2,[]⟩
def gS (l:List Dr):List Dr:=l.filter fun r=>!decide (0<r.num)
theorem gR_len (l:List Dr):(gR l).length<=l.length:=by unfold gR;rw [List.length_map];exact List.length_filter_le _ _
theorem gS_len (l:List Dr):(gS l).length<=l.length:=List.length_filter_le _ _
theorem gR_app (l:List Dr)(r:Dr):gR (l ++ [r])=gR l ++ if 0<r.num then [⟨r.id,2,[]⟩] else []:=by
 unfold gR
 rw [List.filter_append,List.map_append]
 by_cases h:0<r.num <;> simp [h]
theorem gS_app (l:List Dr)(r:Dr):gS (l ++ [r])=gS l ++ if 0<r.num then [] else [r]:=by
 unfold gS
 rw [List.filter_append]
 by_cases h:0<r.num <;> simp [h]
def GoneP (w A:World)(k:Nat)(c:PCfg)(s:CS)(e:Ending)(A':World):Prop:=∃u,e=.returned u/\Rets A' A.heap.size u (s.rets (fun _=>true) 2 [])/\Doc w A' k c s.lost/\KeepD A A'
theorem DRow.shape {A:World}{B:Nat}{v:Value}{l:List Dr}(h:DRow A B v l):∃x y,v=.slice x l.length y:=LRow.shape h
theorem rgone42 (A:World)(h:Dm w A k c v s)(hok:Okc s)(ht:s.tok<=3999999999999992):Calls Tryz.prog 42 #[.pointer (some ⟨k,0,none⟩)] A (GoneP w A k c s):=by
 obtain ⟨ao,cap,rfl⟩:=h.sl
 obtain ⟨n,hn⟩:∃n,s.dcs.length=n:=⟨_,rfl⟩
 have HN:Hid (s.dcs.length=n/\n<=1000000000000):=⟨hn,by have:=dcs_len s;have:=hok.last;omega⟩
 have HD:Hid (Dm w A k c (.slice ao s.dcs.length cap) s/\Okc s/\s.tok<=3999999999999992):=⟨h,hok,ht⟩
 have c10:A.cell? ⟨k,10,none⟩=some (.slice ao n cap):=by rw [<-hn];exact h.blk.cell 10
 clear h hok ht hn
 go_enter Tryz.func42,Tryz.ntmps42
 go_wp2_with fail
 go_loopw [3,4,5] (fun u r q wr=>∃j:Nat,q=.int .i64 (j:Nat)/\j<=n/\Hid (A.grownBy wr none/\Rets wr A.heap.size u (gR (s.dcs.take j))/\DRow wr A.heap.size r (gS (s.dcs.take j)))) (fun _ _ q _=>n-(intOf q).toNat)
 case atStart=>exact ⟨0,rfl,Nat.zero_le _,grown_refl _ _,rets_nil _ _,lrow_nil _ _⟩
 case round =>
  obtain ⟨j,rfl,hj,H⟩:=hrel
  obtain ⟨uo,uc,rfl⟩:=LRow.shape H.out.2.1
  obtain ⟨ro,rc,rfl⟩:=DRow.shape H.out.2.2
  obtain ⟨un,hun⟩:∃x,(gR (s.dcs.take j)).length=x:=⟨_,rfl⟩
  obtain ⟨rn,hrn⟩:∃x,(gS (s.dcs.take j)).length=x:=⟨_,rfl⟩
  have HU:Hid ((gR (s.dcs.take j)).length=un/\(gS (s.dcs.take j)).length=rn/\un<=1000000000000/\rn<=1000000000000):=by
   have h1:=gR_len (s.dcs.take j)
   have h2:=gS_len (s.dcs.take j)
   have h3:=HN.out
   rw [List.length_take] at h1 h2
   exact ⟨hun,hrn,by omega,by omega⟩
  rw [hun,hrn]
  clear hun hrn
  replace c10:=H.out.1.cell c10 (by simp)
  by_cases hlt:j<n
  ·have i1:(j:Int)<(n:Int):=by omega
   have i2:(0:Int)<=(j:Int):=by omega
   have HLJ:Hid (j<n):=hlt
   have d1:IntKind.i64.wrap ((j:Int)+1)=(j:Int)+1:=by have:=HN.out;rw [IntKind.wrap_i64];omega
   have hjl:j<s.dcs.length:=by have:=HN.out.1;omega
   obtain ⟨g,cap',y1,y2,y3,e,q0,q1,q2,q3,q4,q5⟩:=drow_at HD.out.1.row j hjl
   simp at e
   obtain ⟨rfl,rfl⟩:=e
   have htk:s.dcs.take (j+1)=s.dcs.take j ++ [s.dcs[j]]:=List.take_succ_eq_append_getElem hjl
   obtain ⟨x,hx⟩:∃x,s.dcs[j]=x:=⟨_,rfl⟩
   rw [hx] at q0 q1 q2 q3 q5 htk
   replace q0:=H.out.1.cell q0 (by simp)
   replace q1:=H.out.1.cell q1 (by simp)
   have HT:Hid (s.dcs.take (j+1)=s.dcs.take j ++ [x]/\OpsOwn A 0 (.slice y1 y2 y3) x.ops):=⟨htk,q5⟩
   clear htk hx hjl q5
   by_cases hp:0<x.num
   ·have HP:Hid (0<x.num):=hp
    clear q2 q3 q4
    obtain ⟨w5,hw5,H5⟩:=al1 wr #[.int .i64 x.id,.int .i64 2,.slice none 0 0] 78
    obtain ⟨g5,hg5⟩:∃x,wr.heap.size=x:=⟨_,rfl⟩
    rw [hg5] at H5
    have HW5:Hid (wr.alloc (.cells #[.int .i64 x.id,.int .i64 2,.slice none 0 0] 78)=w5/\wr.heap.size=g5):=⟨hw5,hg5⟩
    clear hw5 hg5
    go_wp2_with (at_builtin;rw [HW5.out.1,HW5.out.2];refine appL (t:=78) (c:=3) (by':=40) (rtR_stab A.heap.size) (by decide) 61 Tryz.underlying61 info78 rfl (by decide) (by decide) w5 rfl _ _ rfl A.heap.size (.slice uo un uc) (gR (s.dcs.take j)) ⟨x.id,2,[]⟩ g5 [.int .i64 x.id,.int .i64 2,.slice none 0 0] _ rfl rfl ?d5 H5.out.1 rfl rfl ⟨_,rfl,Own.nil _ _⟩ (by simp [Value.oneCell']) ?d0 ?d1 ?_)
    case d5 =>
     have:=H.out.2.1.grown H5.out.2.1
     rw [HU.out.1] at this
     exact this
    case d0=>have:=HU.out;omega
    case d1=>exact (grown_trans H.out.1 H5.out.2.1).size
    intro g9 cap9 w9 hr9 hg9 hv9
    have HZ:Hid (A.grownBy w9 none/\Rets w9 A.heap.size (.slice (some ⟨g9,0,none⟩) (un+1) cap9) (gR (s.dcs.take (j+1)))/\DRow w9 A.heap.size (.slice ro rn rc) (gS (s.dcs.take (j+1)))):=by
     have hA5:=grown_trans H.out.1 H5.out.2.1
     have hrt:=H.out.2.1.grown H5.out.2.1
     have hds:=LRow.grown H.out.2.2 drR_stab H5.out.2.1
     rw [HU.out.1] at hrt
     rw [HU.out.2.1] at hds
     rw [HT.out.1,gR_app,gS_app,if_pos HP.out,if_pos HP.out,List.append_nil]
     refine ⟨?_,by rw [HU.out.1] at hr9;exact hr9,?_⟩
     ·cases e:(Value.slice uo un uc).ownBlock with
      | none=>rw [e] at hg9;exact grown_trans hA5 hg9
      | some q =>
       rw [e] at hg9
       have:=(hrt.blk q e).1
       exact grown_new hA5 hg9 (by intro y hy;simp at hy;omega)
     ·cases e:(Value.slice uo un uc).ownBlock with
      | none=>rw [e] at hg9;exact LRow.grown hds drR_stab hg9
      | some q =>
       rw [e] at hg9
       obtain ⟨_,_,C,hC⟩:=hrt.blk q e
       exact LRow.set hds drR_stab hC (by decide) (by decide) hg9
    rw [HU.out.1] at *
    clear hr9 hg9 hv9
    go_wp2_with fail
    go_roundw
    case rel=>exact ⟨j+1,by go_num,by have:=HLJ.out;omega,HZ.out⟩
    case measure=>have:=HLJ.out;simp [intOf];omega
   ·have HP:Hid (¬0<x.num):=hp
    replace q2:=H.out.1.cell q2 (by simp)
    replace q3:=H.out.1.cell q3 (by simp)
    replace q4:=H.out.1.cell q4 (by simp)
    obtain ⟨w5,hw5,H5⟩:=al1 wr #[.int .i64 x.id,.int .i64 x.num,.int .i64 x.tm,.bool x.was,.slice y1 y2 y3] 93
    obtain ⟨g5,hg5⟩:∃x,wr.heap.size=x:=⟨_,rfl⟩
    rw [hg5] at H5
    have HW5:Hid (wr.alloc (.cells #[.int .i64 x.id,.int .i64 x.num,.int .i64 x.tm,.bool x.was,.slice y1 y2 y3] 93)=w5/\wr.heap.size=g5):=⟨hw5,hg5⟩
    clear hw5 hg5
    go_wp2_with (at_builtin;rw [HW5.out.1,HW5.out.2];refine appL (t:=93) (c:=5) (by':=56) drR_stab (by decide) 49 Tryz.underlying49 info93 rfl (by decide) (by decide) w5 rfl _ _ rfl A.heap.size (.slice ro rn rc) (gS (s.dcs.take j)) x g5 [.int .i64 x.id,.int .i64 x.num,.int .i64 x.tm,.bool x.was,.slice y1 y2 y3] _ rfl rfl ?d5 H5.out.1 rfl rfl ⟨_,rfl,HT.out.2.grown (grown_trans H.out.1 H5.out.2.1)⟩ (by simp [Value.oneCell']) ?d0 ?d1 ?_)
    case d5 =>
     have:=LRow.grown H.out.2.2 drR_stab H5.out.2.1
     rw [HU.out.2.1] at this
     exact this
    case d0=>have:=HU.out;omega
    case d1=>exact (grown_trans H.out.1 H5.out.2.1).size
    intro g9 cap9 w9 hr9 hg9 hv9
    have HZ:Hid (A.grownBy w9 none/\Rets w9 A.heap.size (.slice uo un uc) (gR (s.dcs.take (j+1)))/\DRow w9 A.heap.size (.slice (some ⟨g9,0,none⟩) (rn+1) cap9) (gS (s.dcs.take (j+1)))):=by
     have hA5:=grown_trans H.out.1 H5.out.2.1
     have hrt:=H.out.2.1.grown H5.out.2.1
     have hds:DRow w5 A.heap.size _ _:=LRow.grown H.out.2.2 drR_stab H5.out.2.1
     rw [HU.out.1] at hrt
     rw [HU.out.2.1] at hds
     rw [HT.out.1,gR_app,gS_app,if_neg (by have:=HP.out;omega),if_neg (by have:=HP.out;omega),List.append_nil]
     refine ⟨?_,?_,by rw [HU.out.2.1] at hr9;exact hr9⟩
     ·cases e:(Value.slice ro rn rc).ownBlock with
      | none=>rw [e] at hg9;exact grown_trans hA5 hg9
      | some q =>
       rw [e] at hg9
       have:=(hds.blk q e).1
       exact grown_new hA5 hg9 (by intro y hy;simp at hy;omega)
     ·cases e:(Value.slice ro rn rc).ownBlock with
      | none=>rw [e] at hg9;exact hrt.grown hg9
      | some q =>
       rw [e] at hg9
       obtain ⟨_,C,hC⟩:=hds.blk q e
       exact hrt.set hC (by decide) (by decide) hg9
    rw [HU.out.2.1] at *
    clear hr9 hg9 hv9
    go_wp2_with fail
    go_roundw
    case rel=>exact ⟨j+1,by go_num,by have:=HLJ.out;omega,HZ.out⟩
    case measure=>have:=HLJ.out;simp [intOf];omega
  ·have i1:¬(j:Int)<(n:Int):=by omega
   have hjn:j=s.dcs.length:=by have:=HN.out.1;omega
   have HE:Hid (Rets wr A.heap.size (.slice uo un uc) (s.rets (fun _=>true) 2 [])/\DRow wr A.heap.size (.slice ro rn rc) s.lost.dcs/\A.grownBy wr none):=by
    have h1:=H.out
    rw [hjn,List.take_length] at h1
    have e1:gR s.dcs=s.rets (fun _=>true) 2 []:=gone_rets s
    have e2:gS s.dcs=s.lost.dcs:=gone_rest s
    have h2:=HU.out
    rw [hjn,List.take_length] at h2
    rw [h2.1,h2.2.1,e1,e2] at h1
    exact ⟨h1.2.1,h1.2.2,h1.1⟩
   have hb:=HD.out.1.blk.grown HE.out.2.2 (by simp)
   have c11:wr.cell? ⟨k,11,none⟩=some (.int .i64 s.ses):=hb.cell 11
   have c16:wr.cell? ⟨k,16,none⟩=some (.int .i64 (s.L.length:Nat)):=hb.cell 16
   have f10:=hb.free 10
   have f11:=hb.free 11
   have f16:=hb.free 16
   have HB:Hid (Blk (((wr.setCell ⟨k,10,none⟩ (.slice ro rn rc)).setCell ⟨k,11,none⟩ (.int .i64 0)).setCell ⟨k,16,none⟩ (.int .i64 0)) k 51 #[.int .i64 s.num,.int .i64 c.rows,.int .i64 c.bytes,.int .i64 s.size,.int .i64 c.queue,.int .i64 s.most,.int .i64 s.tmo,.int .i64 c.idle,.int .i64 c.log,.int .i64 s.last,.slice ro rn rc,.int .i64 0,.int .i64 s.tok,.bool s.asked,.int .i64 s.askAt,.int .i64 s.now,.int .i64 0]/\wr.grownBy (((wr.setCell ⟨k,10,none⟩ (.slice ro rn rc)).setCell ⟨k,11,none⟩ (.int .i64 0)).setCell ⟨k,16,none⟩ (.int .i64 0)) (some k)) :=
    ⟨((hb.store 10 _).store 11 _).store 16 _,grown_trans (grown_setCell _ _ _ _) (grown_trans (grown_setCell _ _ _ _) (grown_setCell _ _ _ _))⟩
   clear hjn H hb
   go_upto_region 12 with fail
   generalize ((wr.setCell ⟨k,10,none⟩ (.slice ro rn rc)).setCell ⟨k,11,none⟩ (.int .i64 0)).setCell ⟨k,16,none⟩ (.int .i64 0)=w2 at HB ⊢
   clear c10 c11 c16 f10 f11 f16
   go_wp2_with fail
   refine (rrenew46 k _ _ _ _ _ _ _ _ _ _ _ _ _ _ _ _ s.tok w2 HB.out.1 (by have:=HD.out.2.1.tok;omega)).mono ?_
   rintro e w3 ⟨⟨y,rfl⟩,hb3,hg3⟩
   have H3:Hid (Blk w3 k 51 (docC s.lost c (.slice ro rn rc))/\wr.grownBy w3 (some k)):=⟨hb3,grown_trans HB.out.2 hg3⟩
   clear hb3 hg3
   go_wp2_with fail
   go_ret
   have hbr:=HD.out.1.blk.grown HE.out.2.2 (by simp)
   refine ⟨_,rfl,HE.out.1.set hbr (by decide) (by decide) H3.out.2,⟨_,H3.out.1,(LRow.set HE.out.2.1 drR_stab hbr (by decide) (by decide) H3.out.2).mono HD.out.1.gr.size,HD.out.1.lo,?_⟩,?_⟩
   ·have:=HD.out.1.lo
    exact grown_new (grown_trans HD.out.1.gr HE.out.2.2) H3.out.2 (by intro x hx;simp at hx;omega)
   ·exact keepD_trans (keepD_grown HE.out.2.2) (Fr.of H3.out.2 fun x hx=>by simp at hx;subst hx;exact ⟨51,_,hbr,.inl rfl⟩)
variable {s:CS} {w A A':World} {k:Nat} {c:PCfg} {v:Value}
theorem may_fit {l:List POp}(h:mayCall l=true):Fit l:=by
 unfold mayCall at h
 simp only [Bool.and_eq_true,decide_eq_true_eq,List.all_eq_true] at h
 refine ⟨by omega,fun o ho=>?_⟩
 have:=may_of (h.2 o ho)
 have h1:=this.key
 have h2:=this.value
 have h3:=this.old
 have h4:=this.to
 omega
theorem nums_len (L:List (Option Cr)):∀k,k<=L.length->(gather numG L k).length=outN L k
 | 0,_=>by rw [outN_zero];rfl
 | k+1,h=>by
  rw [gather,List.length_append,nums_len L k (by omega)]
  cases e:L[k]? with
  | none=>rw [List.getElem?_eq_getElem (by omega)] at e;cases e
  | some o =>
   cases o with
   | none=>rw [outN_none e];rfl
   | some c=>rw [outN_some e];rfl
theorem dcs_many (s:CS):s.dcs.length=outN s.L s.L.length+s.wt.length:=by
 unfold CS.dcs
 rw [List.length_append,List.length_map,nums_len s.L _ (Nat.le_refl _)]
theorem Dm.id (h:Dm w A k c v s)(_hl:s.last<1000000000000):Dm w (A.setCell ⟨k,9,none⟩ (.int .i64 (s.last+1))) k c v s.id:=by
 have hb:=h.blk.store 9 (.int .i64 (s.last+1))
 refine ⟨hb,LRow.set h.row drR_stab h.blk (by decide) (by decide) (grown_setCell _ _ _ _),h.lo,?_⟩
 have:=h.lo
 exact grown_new h.gr (grown_setCell _ k 9 _) (by intro x hx;simp at hx;omega)
theorem keepD_own {t:Nat}{C:Array Value}(hb:Blk A k t C)(ht:DT t)(hg:A.grownBy A' (some k)):KeepD A A':=Fr.of hg fun x hx=>by simp at hx;subst hx;exact ⟨t,C,hb,ht⟩
def RInvP (w A:World)(k:Nat)(c:PCfg)(s:CS)(ops:List POp)(e:Ending)(A':World):Prop :=
 e=.returned (.tuple #[.int .i64 (s.last+1),.int .i64 (openW s ops)])/\(∀s',((openW s ops=0/\∃o n cc,s'=s.id.put ⟨s.last+1,o,n,cc,ops,false,0⟩)\/(openW s ops≠0/\s'=s.id))->Doc w A' k c s')/\KeepD A A'
theorem rinvoke10 (A:World)(o1:Option Addr)(o2 o3:Nat)(ops:List POp)(h:Dm w A k c v s)(hok:Okc s)(ho:∀y,w.grownBy y none->Ops y (.slice o1 o2 o3) ops)(hl:s.last<1000000000000):Calls Tryz.prog 10 #[.pointer (some ⟨k,0,none⟩),.agg #[.slice o1 o2 o3]] A (RInvP w A k c s ops):=by
 obtain ⟨ao,cap,rfl⟩:=h.sl
 obtain ⟨n,hn⟩:∃n,s.dcs.length=n:=⟨_,rfl⟩
 rw [hn] at h
 have HN:Hid (s.dcs.length=n/\n<=1000000000000/\outN s.L s.L.length+s.wt.length=n):=⟨hn,by have:=dcs_len s;have:=hok.last;omega,by rw [<-hn];exact (dcs_many s).symm⟩
 have HD:Hid (Dm w A k c (.slice ao n cap) s/\Okc s/\(∀y,w.grownBy y none->Ops y (.slice o1 o2 o3) ops)/\s.last<1000000000000):=⟨h,hok,ho,hl⟩
 have d1:IntKind.i64.wrap (s.last+1)=s.last+1:=by have:=hok.last;rw [IntKind.wrap_i64];omega
 clear h hok ho hl hn
 obtain ⟨w1,hw1,H1⟩:=al1 A #[.slice o1 o2 o3] 35
 obtain ⟨b1,hb1⟩:∃x,A.heap.size=x:=⟨_,rfl⟩
 rw [hb1] at H1
 have HB1:Hid (A.heap.size=b1):=hb1
 have HD1:Hid (Dm w w1 k c (.slice ao n cap) s):=HD.out.1.grown H1.out.2.1
 have c9:w1.cell? ⟨k,9,none⟩=some (.int .i64 s.last):=HD1.out.blk.cell 9
 have f9:=HD1.out.blk.free 9
 go_enter Tryz.func10,Tryz.ntmps10
 go_upto_region 1 with fail
 clear hw1 hb1
 go_upto_region 4 with fail
 have HD2:Hid (Dm w (w1.setCell ⟨k,9,none⟩ (.int .i64 (s.last+1))) k c (.slice ao n cap) s.id/\Blk (w1.setCell ⟨k,9,none⟩ (.int .i64 (s.last+1))) b1 35 #[.slice o1 o2 o3]/\w1.grownBy (w1.setCell ⟨k,9,none⟩ (.int .i64 (s.last+1))) (some k)):=by
  have hg:=grown_setCell w1 k 9 (.int .i64 (s.last+1))
  refine ⟨HD1.out.id HD.out.2.2.2,H1.out.1.grown hg ?_,hg⟩
  have:=HD.out.1.blk.lt
  have:=HB1.out
  simp
  omega
 generalize w1.setCell ⟨k,9,none⟩ (.int .i64 (s.last+1))=w2 at HD2 ⊢
 clear c9 f9
 have b0:w2.cell? ⟨b1,0,none⟩=some (.slice o1 o2 o3):=HD2.out.2.1.cell 0
 obtain ⟨er,her⟩:∃x,chk ops=x:=⟨_,rfl⟩
 have HER:Hid (chk ops=er):=her
 have hcases:er=2\/er=3\/er=0:=by
  rw [<-her]
  unfold chk
  split
  ·split
   ·exact .inr (.inr rfl)
   ·exact .inr (.inl rfl)
  ·exact .inl rfl
 clear her
 go_wp2_with fail
 refine (check12 (.slice o1 o2 o3) ops w2 (HD.out.2.2.1 w2 HD2.out.1.gr)).mono ?_
 rintro e w3 ⟨rfl,hg⟩
 rw [HER.out]
 have HD3:Hid (Dm w w3 k c (.slice ao n cap) s.id/\Blk w3 b1 35 #[.slice o1 o2 o3]/\KeepD A w3):=⟨HD2.out.1.grown hg,HD2.out.2.1.grown hg (by simp),keepD_trans (keepD_grown H1.out.2.1) (keepD_trans (keepD_own HD1.out.blk (.inl rfl) HD2.out.2.2) (keepD_grown hg))⟩
 clear hg HD2 b0
 have c9:w3.cell? ⟨k,9,none⟩=some (.int .i64 (s.last+1)):=HD3.out.1.blk.cell 9
 have HNO:Hid (openW s ops≠0->∀y,True->(∀s',((openW s ops=0/\∃o n cc,s'=s.id.put ⟨s.last+1,o,n,cc,ops,false,0⟩)\/(openW s ops≠0/\s'=s.id))->Dm w y k c (.slice ao n cap) s.id->Doc w y k c s')):=by
  intro hne y _ s' hs' hd
  rcases hs' with ⟨e,_⟩ | ⟨_,rfl⟩
  ·exact absurd e hne
  ·exact ⟨_,hd⟩
 rcases hcases with rfl | rfl | rfl
 ·have HP:Hid (openW s ops=3):=by unfold Hid openW;rw [HER.out,if_neg (by decide),if_pos (by decide)]
  go_wp2_with fail
  go_ret2
  unfold RInvP
  rw [HP.out]
  exact ⟨rfl,fun s' hs'=>HNO.out (by rw [HP.out];decide) _ trivial s' (by rw [HP.out];exact hs') HD3.out.1,HD3.out.2.2⟩
 ·have HP:Hid (openW s ops=4):=by unfold Hid openW;rw [HER.out,if_pos rfl]
  go_wp2_with fail
  go_ret2
  unfold RInvP
  rw [HP.out]
  exact ⟨rfl,fun s' hs'=>HNO.out (by rw [HP.out];decide) _ trivial s' (by rw [HP.out];exact hs') HD3.out.1,HD3.out.2.2⟩
 ·have c10:w3.cell? ⟨k,10,none⟩=some (.slice ao n cap):=HD3.out.1.blk.cell 10
  have c5:w3.cell? ⟨k,5,none⟩=some (.int .i64 s.most):=HD3.out.1.blk.cell 5
  have b0:w3.cell? ⟨b1,0,none⟩=some (.slice o1 o2 o3):=HD3.out.2.1.cell 0
  by_cases hb:(s.most:Int)<=(n:Int)
  ·have HP:Hid (openW s ops=5):=by
    unfold Hid openW
    rw [HER.out,if_neg (by decide),if_neg (by decide),if_pos (by have:=HN.out;omega)]
   go_upto_region 9 with fail
   refine wp_region_hold 1000 (fun y=>w3.grownBy y none) (by kernel_rfl) ?_
   have G0:Hid (w3.grownBy w3.drew none):=grown_drew _ _
   generalize w3.drew=wd at G0 ⊢
   have J:Idx [0,1,2,3,4,5,6,7,8,9,10]:=trivial
   iterate 11 (refine tK J (G0.out) rfl rfl (fun wk hk=>by have q1:=hk.cell c10 (by simp);have q2:=hk.cell c5 (by simp);go_simp;try rfl) ?_;replace J:=J.tl;try simp only [pN])
   clear J
   refine wpHold_done (by kernel_rfl) ?_
   refine (‹∀(a:Act) (w:World),Code.wp Tryz.prog _ _ a w->_› _ _ ?_)
   replace c9:=G0.out.cell c9 (by simp)
   go_wp2_with fail
   go_ret2
   unfold RInvP
   rw [HP.out]
   exact ⟨rfl,fun s' hs'=>HNO.out (by rw [HP.out];decide) _ trivial s' (by rw [HP.out];exact hs') (HD3.out.1.grown G0.out),keepD_trans HD3.out.2.2 (keepD_grown G0.out)⟩
  ·have HP:Hid (openW s ops=0):=by
    unfold Hid openW
    rw [HER.out,if_neg (by decide),if_neg (by decide),if_neg (by have:=HN.out;omega)]
   go_upto_region 9 with fail
   refine wp_region_hold 1000 (fun y=>w3.grownBy y none) (by kernel_rfl) ?_
   have G0:Hid (w3.grownBy w3.drew none):=grown_drew _ _
   generalize w3.drew=wd at G0 ⊢
   have J:Idx [0,1,2,3,4,5,6,7,8,9,10]:=trivial
   iterate 11 (refine tK J (G0.out) rfl rfl (fun wk hk=>by have q1:=hk.cell c10 (by simp);have q2:=hk.cell c5 (by simp);go_simp;try rfl) ?_;replace J:=J.tl;try simp only [pN])
   clear J
   refine wpHold_done (by kernel_rfl) ?_
   refine (‹∀(a:Act) (w:World),Code.wp Tryz.prog _ _ a w->_› _ _ ?_)
   have HD4:Hid (Dm w wd k c (.slice ao n cap) s.id/\Blk wd b1 35 #[.slice o1 o2 o3]/\KeepD A wd):=⟨HD3.out.1.grown G0.out,HD3.out.2.1.grown G0.out (by simp),keepD_trans HD3.out.2.2 (keepD_grown G0.out)⟩
   clear c9 c10 c5 b0 HNO G0 HD3
   have HRD:Hid (∀y,wd.grownBy y (Value.slice ao n cap).ownBlock->Blk y k 51 (docC s.id c (.slice ao n cap))/\Blk y b1 35 #[.slice o1 o2 o3]):=by
    intro y hy
    refine ⟨HD4.out.1.blk.grown hy fun e=>?_,HD4.out.2.1.grown hy fun e=>?_⟩
    ·obtain ⟨C,hC⟩:=(HD4.out.1.row.blk _ e).2
     exact absurd (blk_type HD4.out.1.blk hC) (by decide)
    ·obtain ⟨C,hC⟩:=(HD4.out.1.row.blk _ e).2
     exact absurd (blk_type HD4.out.2.1 hC) (by decide)
   go_upto_region 11 with fail
   clear hb
   refine wp_region_hold 16 (fun y=>wd.grownBy y (Value.slice ao n cap).ownBlock) (by kernel_rfl) ?_
   have G5:Hid (wd.grownBy wd.drew none):=grown_drew _ _
   generalize wd.drew=we at G5 ⊢
   have J:Idx [0,1,2,3,4,5,6,7,8,9]:=trivial
   iterate 10 (refine tK J ((grown_mono G5.out)) rfl rfl (fun wk hk=>by obtain ⟨hk1,hk2⟩:=HRD.out wk hk;have q1:wk.cell? ⟨k,10,none⟩=some (.slice ao n cap):=hk1.cell 10;have q2:wk.cell? ⟨k,9,none⟩=some (.int .i64 (s.last+1)):=hk1.cell 9;have q3:wk.cell? ⟨b1,0,none⟩=some (.slice o1 o2 o3):=hk2.cell 0;go_simp;try rfl) ?_;replace J:=J.tl;try simp only [pN])
   clear J
   refine wpHold_one (i:=10) rfl (by kernel_rfl) (by rfl) (fun K hK=>?_)
   go_wp2_with fail
   refine (copy11 (.slice o1 o2 o3) ops we (HD.out.2.2.1 we (grown_trans HD4.out.1.gr G5.out)) (may_fit (chk0 HER.out).1)).mono ?_
   rintro e w5 ⟨u,rfl,hu,hg⟩
   obtain ⟨uo,un,uc,rfl⟩:=isSl_ow hu
   have H5:Hid (wd.grownBy w5 none/\OpsOwn w5 0 (.slice uo un uc) ops):=⟨grown_trans G5.out hg,hu.mono (Nat.zero_le _)⟩
   clear hu hg
   go_wp2_with fail
   refine hK.out _ _ (fun _=>grown_mono H5.out.1) ?_
   clear hK K
   try simp only [pN]
   have J:Idx [11]:=trivial
   iterate 1 (refine tK J ((grown_mono H5.out.1)) rfl rfl (fun wk hk=>by obtain ⟨hk1,hk2⟩:=HRD.out wk hk;have q1:wk.cell? ⟨k,10,none⟩=some (.slice ao n cap):=hk1.cell 10;have q2:wk.cell? ⟨k,9,none⟩=some (.int .i64 (s.last+1)):=hk1.cell 9;have q3:wk.cell? ⟨b1,0,none⟩=some (.slice o1 o2 o3):=hk2.cell 0;go_simp;try rfl) ?_;replace J:=J.tl;try simp only [pN])
   clear J
   refine wpHold_one (i:=12) rfl (by kernel_rfl) (by rfl) (fun K hK=>?_)
   obtain ⟨w8,hw8,H8'⟩:=al1 w5 #[.int .i64 (s.last+1),.int .i64 0,.int .i64 0,.bool false,.slice uo un uc] 93
   obtain ⟨p8,hp8⟩:∃x,w5.heap.size=x:=⟨_,rfl⟩
   rw [hp8] at H8'
   have HW8:Hid (w5.alloc (.cells #[.int .i64 (s.last+1),.int .i64 0,.int .i64 0,.bool false,.slice uo un uc] 93)=w8/\w5.heap.size=p8):=⟨hw8,hp8⟩
   clear hw8 hp8
   go_wp2_with fail
   rw [HW8.out.1,HW8.out.2]
   have H8:Hid (Blk w8 p8 93 #[.int .i64 (s.last+1),.int .i64 0,.int .i64 0,.bool false,.slice uo un uc]/\wd.grownBy w8 none/\OpsOwn w8 0 (.slice uo un uc) ops):=⟨H8'.out.1,grown_trans H5.out.1 H8'.out.2.1,H5.out.2.grown H8'.out.2.1⟩
   clear HW8 H8'
   refine hK.out _ _ (fun _=>grown_mono H8.out.2.1) ?_
   clear hK K
   try simp only [pN]
   refine wpHold_one (i:=13) rfl (by kernel_rfl) (by rfl) (fun K hK=>?_)
   have HROW:Hid (LRow 93 5 drR w8 w.heap.size (.slice ao n cap) s.dcs):=LRow.grown HD4.out.1.row drR_stab H8.out.2.1
   refine appL_wp (t:=93) (c:=5) (by':=56) drR_stab (by decide) 49 Tryz.underlying49 info93 rfl (by decide) (by decide) w8 _ _ rfl w.heap.size (.slice ao n cap) s.dcs ⟨s.last+1,0,0,false,ops⟩ p8 [.int .i64 (s.last+1),.int .i64 0,.int .i64 0,.bool false,.slice uo un uc] _ rfl rfl HROW.out H8.out.1 rfl rfl ⟨_,rfl,H8.out.2.2⟩ (by simp [Value.oneCell']) (by have:=HN.out;omega) (grown_trans HD4.out.1.gr H8.out.2.1).size ?_
   intro g' cap' w10 hr hg hgg
   rw [HN.out.1] at hr ⊢
   have H10:Hid (LRow 93 5 drR w10 w.heap.size (.slice (some ⟨g',0,none⟩) (n+1) cap') (s.dcs ++ [⟨s.last+1,0,0,false,ops⟩])/\wd.grownBy w10 (Value.slice ao n cap).ownBlock):=⟨hr,grown_trans (grown_mono H8.out.2.1) hg⟩
   clear hr hg hgg
   refine hK.out _ _ (fun _=>H10.out.2) ?_
   clear hK K
   try simp only [pN]
   have J:Idx [14,15]:=trivial
   iterate 2 (refine tK J (H10.out.2) rfl rfl (fun wk hk=>by obtain ⟨hk1,hk2⟩:=HRD.out wk hk;have q1:wk.cell? ⟨k,10,none⟩=some (.slice ao n cap):=hk1.cell 10;have q2:wk.cell? ⟨k,9,none⟩=some (.int .i64 (s.last+1)):=hk1.cell 9;have q3:wk.cell? ⟨b1,0,none⟩=some (.slice o1 o2 o3):=hk2.cell 0;go_simp;try rfl) ?_;replace J:=J.tl;try simp only [pN])
   clear J
   refine wpHold_one (i:=16) rfl (by kernel_rfl) (by rfl) (fun K hK=>?_)
   have x10:w10.cell? ⟨k,10,none⟩=some (.slice ao n cap):=(HRD.out w10 H10.out.2).1.cell 10
   have f10:=(HRD.out w10 H10.out.2).1.free 10
   go_wp2_with fail
   refine hK.out _ _ (fun h=>absurd rfl h) ?_
   clear hK K x10 f10
   try simp only [pN]
   refine wpHold_done (by kernel_rfl) ?_
   refine (‹∀(a:Act) (w:World),Code.wp Tryz.prog _ _ a w->_› _ _ ?_)
   have HF:Hid (∀o n' cc,Dm w (w10.setCell ⟨k,10,none⟩ (.slice (some ⟨g',0,none⟩) (n+1) cap')) k c (.slice (some ⟨g',0,none⟩) (n+1) cap') (s.id.put ⟨s.last+1,o,n',cc,ops,false,0⟩)/\KeepD A (w10.setCell ⟨k,10,none⟩ (.slice (some ⟨g',0,none⟩) (n+1) cap'))):=by
    intro o n' cc
    have hb:=(HRD.out w10 H10.out.2).1
    have hg10:=grown_setCell w10 k 10 (.slice (some ⟨g',0,none⟩) (n+1) cap')
    have hlo:=HD4.out.1.lo
    have hw10:w.grownBy w10 none:=by
     cases e:(Value.slice ao n cap).ownBlock with
     | none=>have h:=H10.out.2;rw [e] at h;exact grown_trans HD4.out.1.gr h
     | some q =>
      have h:=H10.out.2
      rw [e] at h
      have:=(HD4.out.1.row.blk q e).1
      exact grown_new HD4.out.1.gr h (by intro x hx;simp at hx;omega)
    refine ⟨⟨hb.store 10 _,?_,hlo,grown_new hw10 hg10 (by intro x hx;simp at hx;omega)⟩,?_⟩
    ·have hr:=LRow.set H10.out.1 drR_stab hb (by decide) (by decide) hg10
     show LRow 93 5 drR _ _ _ (s.id.put ⟨s.last+1,o,n',cc,ops,false,0⟩).dcs
     rw [put_doc]
     exact hr
    ·refine keepD_trans HD4.out.2.2 (keepD_trans (Fr.of H10.out.2 fun x hx=>?_) (keepD_own hb (.inl rfl) hg10))
     obtain ⟨C,hC⟩:=(HD4.out.1.row.blk x hx).2
     exact ⟨93,C,hC,.inr rfl⟩
   have HB11:Hid (Blk (w10.setCell ⟨k,10,none⟩ (.slice (some ⟨g',0,none⟩) (n+1) cap')) k 51 (docC (s.id.put ⟨s.last+1,none,0,0,ops,false,0⟩) c (.slice (some ⟨g',0,none⟩) (n+1) cap'))):=(HF.out none 0 0).1.blk
   generalize w10.setCell ⟨k,10,none⟩ (.slice (some ⟨g',0,none⟩) (n+1) cap')=w11 at HF HB11 ⊢
   have c9:w11.cell? ⟨k,9,none⟩=some (.int .i64 (s.last+1)):=HB11.out.cell 9
   go_wp2_with fail
   go_ret2
   unfold RInvP
   rw [HP.out]
   refine ⟨rfl,fun s' hs'=>?_,(HF.out none 0 0).2⟩
   rcases hs' with ⟨_,o,n',cc,rfl⟩ | ⟨e,_⟩
   ·exact ⟨_,(HF.out o n' cc).1⟩
   ·exact absurd rfl e
variable {s:CS} {w A A':World} {k:Nat} {c:PCfg} {v:Value}
theorem keepD_blk {i t:Nat}{C:Array Value}(hk:KeepD A A')(hb:Blk A i t C)(ht:¬DT t):Blk A' i t C:=hb.same (hk.block i hb.lt fun ⟨_t',_c',hb',hk'⟩=>ht (blk_type hb' hb ▸ hk'))
def RLeaveP (w A:World)(k:Nat)(c:PCfg)(s:CS)(e:Ending)(A':World):Prop:=∃v u,e=.returned (.tuple #[v,u])/\MsgsOwn A' A.heap.size v (leaveM s)/\Rets A' A.heap.size u (leaveL s)/\Doc w A' k c (leaveS s)/\KeepD A A'
theorem close_one {B g:Nat}(hb:MB A g (.slice none 0 0) (.slice none 0 0) (msgClose s))(hB:B<=g):MsgsOwn A B (.slice (some ⟨g,0,none⟩) 1 1) [msgClose s]:=msgs_one hb hB (opsOwn_nil _ _) (Own.nil _ _)
theorem rleave18 (A:World)(h:Dm w A k c v s)(hok:Okc s)(ht:s.tok<=3999999999999992):Calls Tryz.prog 18 #[.pointer (some ⟨k,0,none⟩)] A (RLeaveP w A k c s):=by
 have HD:Hid (Dm w A k c v s/\Okc s/\s.tok<=3999999999999992):=⟨h,hok,ht⟩
 have c11:A.cell? ⟨k,11,none⟩=some (.int .i64 s.ses):=h.blk.cell 11
 have c13:A.cell? ⟨k,13,none⟩=some (.bool s.asked):=h.blk.cell 13
 have c0:A.cell? ⟨k,0,none⟩=some (.int .i64 s.num):=h.blk.cell 0
 by_cases h0:s.ses=0
 ·have HZ:Hid (s.ses=0/\s.L=[]):=⟨h0,hok.none h0⟩
  obtain ⟨ak,has⟩:∃x,s.asked=x:=⟨_,rfl⟩
  have HA:Hid (s.asked=ak):=has
  rw [h0] at c11
  rw [has] at c13
  clear h hok ht h0 has
  cases ak with
  | false =>
   go_enter Tryz.func18,Tryz.ntmps18
   go_wp2_with fail
   go_ret2
   have e0:¬(0<s.ses):=by have:=HZ.out.1;omega
   have e1:leaveM s=[]:=if_neg e0
   have e2:leaveL s=[]:=if_neg e0
   have e3:leaveS s=s:=if_neg (by rw [HA.out];simp;omega)
   unfold RLeaveP
   rw [e1,e2,e3]
   exact ⟨_,_,rfl,msgsOwn_nil _ _,rets_nil _ _,⟨_,HD.out.1⟩,keepD_grown (grown_refl _ _)⟩
  | true =>
   go_enter Tryz.func18,Tryz.ntmps18
   go_wp2_with fail
   refine (rrenew46 k _ _ _ _ _ _ _ _ _ _ _ _ _ _ _ _ s.tok A HD.out.1.blk (by have:=HD.out.2.1.tok;omega)).mono ?_
   rintro e w3 ⟨⟨y,rfl⟩,hb3,hg3⟩
   have H3:Hid (Doc w w3 k c s.lost/\KeepD A w3):=by
    have hl:=HZ.out.2
    have hb:=HD.out.1.blk
    have hlo:=HD.out.1.lo
    refine ⟨⟨v,?_,?_,hlo,grown_new HD.out.1.gr hg3 (by intro x hx;simp at hx;omega)⟩,keepD_own hb (.inl rfl) hg3⟩
    ·have h1:=hb3
     rw [hl,HZ.out.1] at h1
     exact h1
    ·have hr:=LRow.set HD.out.1.row drR_stab hb (by decide) (by decide) hg3
     have e:s.lost.dcs=s.dcs:=by simp [CS.dcs,CS.lost,hl]
     rw [e]
     exact hr
   clear hb3 hg3
   go_wp2_with fail
   go_ret2
   have e0:¬(0<s.ses):=by have:=HZ.out.1;omega
   have e1:leaveM s=[]:=if_neg e0
   have e2:leaveL s=[]:=if_neg e0
   have e3:leaveS s=s.lost:=if_pos (.inr HA.out)
   unfold RLeaveP
   rw [e1,e2,e3]
   exact ⟨_,_,rfl,msgsOwn_nil _ _,rets_nil _ _,H3.out.1,H3.out.2⟩
 ·have hs:(s.ses==0)=false:=by rw [beq_eq_false_iff_ne];exact h0
  have HP:Hid (0<s.ses):=by have:=hok.ses;unfold Hid;omega
  have HC:Hid (∀y,A.grownBy y none->y.cell? ⟨k,11,none⟩=some (.int .i64 s.ses)/\y.cell? ⟨k,0,none⟩=some (.int .i64 s.num)):=fun y hy=>⟨hy.cell c11 (by simp),hy.cell c0 (by simp)⟩
  clear h hok ht h0 c13 c0
  go_enter Tryz.func18,Tryz.ntmps18
  go_upto_region 7 with fail
  refine wp_region_hold 1000 (fun y=>A.grownBy y none) (by kernel_rfl) ?_
  have G0:Hid (A.grownBy A.drew none):=grown_drew _ _
  generalize A.drew=wd at G0 ⊢
  clear c11 hs
  have J:Idx [0,1,2,3,4,5,6,7,8,9]:=trivial
  iterate 10 (refine tK J (G0.out) rfl rfl (fun wk hk=>by obtain ⟨p1,p0⟩:=HC.out wk hk;go_simp;try rfl) ?_;replace J:=J.tl;try simp only [pN])
  clear J
  refine wpHold_one (i:=10) rfl (by kernel_rfl) (by rfl) (fun K hK=>?_)
  obtain ⟨w5,hw5,H5⟩:=al1 wd #[.int .i64 0,.int .i64 0,.int .i64 0,.int .i64 0,.int .i64 0,.int .i64 0,.int .i64 0,.slice none 0 0,.int .i64 0,.int .i64 0,.int .i64 0,.int .i64 0,.slice none 0 0] 45
  obtain ⟨mb,hmb⟩:∃x,wd.heap.size=x:=⟨_,rfl⟩
  have HMB:Hid (wd.heap.size=mb):=hmb
  go_wp2_with fail
  try rw [hw5]
  try rw [hmb]
  rw [hmb] at H5
  clear hw5 hmb
  have H6:Hid (A.grownBy w5 none/\Room w5 mb/\A.heap.size<=mb):=⟨grown_trans G0.out H5.out.2.1,room_lit H5.out.1,by have:=HMB.out;have:=G0.out.size;omega⟩
  refine hK.out _ _ (fun _=>H6.out.1) ?_
  clear hK K
  try simp only [pN]
  refine wpHold_one (i:=11) rfl (by kernel_rfl) (by rfl) (fun K hK=>?_)
  obtain ⟨r0,r1,r2,r3,r4,r5,r6,r7,r8,r9,r10,r11,r12,u0,u1,u2,u3,u4,u5,u6,u7,u8,u9,u10,u11,u12⟩:=H6.out.2.1.cells
  obtain ⟨z0,z1,z2,z3,z4,z5,z6,z7,z8,z9,z10,z11,z12⟩:=H6.out.2.1.frees
  obtain ⟨W6,hW6,HM6⟩:=setM H6.out.2.1 (.slice none 0 0) (.slice none 0 0) (msgClose s)
  dsimp only [msgClose,zeroR] at hW6
  go_wp2_with fail
  try rw [hW6]
  clear hW6 r0 r1 r2 r3 r4 r5 r6 r7 r8 r9 r10 r11 r12 u0 u1 u2 u3 u4 u5 u6 u7 u8 u9 u10 u11 u12 z0 z1 z2 z3 z4 z5 z6 z7 z8 z9 z10 z11 z12
  have H7:Hid (A.grownBy W6 none/\MB W6 mb (.slice none 0 0) (.slice none 0 0) (msgClose s)/\A.heap.size<=mb):=⟨grown_new H6.out.1 HM6.out.2 (by intro x hx;have:=H6.out.2.2;simp at hx;omega),HM6.out.1,H6.out.2.2⟩
  refine hK.out _ _ (fun _=>H7.out.1) ?_
  clear hK K
  try simp only [pN]
  refine wpHold_done (by kernel_rfl) ?_
  refine (‹∀(a:Act) (w:World),Code.wp Tryz.prog _ _ a w->_› _ _ ?_)
  clear H6 HM6 H5
  go_upto_region 8 with fail
  refine wp_region_hold 1000 (fun y=>MB y mb (.slice none 0 0) (.slice none 0 0) (msgClose s)) (by kernel_rfl) ?_
  have G8:Hid (A.grownBy W6.drew none/\MB W6.drew mb (.slice none 0 0) (.slice none 0 0) (msgClose s)/\A.heap.size<=mb):=⟨grown_trans H7.out.1 (grown_drew _ _),H7.out.2.1.grown (grown_drew _ _),H7.out.2.2⟩
  generalize W6.drew=we at G8 ⊢
  have J:Idx [0,2]:=trivial
  iterate 2 (refine tK J (G8.out.2.1) rfl rfl (fun wk hk=>by obtain ⟨p0,p1,p2,p3,p4,p5,p6,p7,p8,p9,p10,p11,p12⟩:=MB.cells hk;dsimp only [msgClose,zeroR] at p0 p1 p2 p3 p4 p5 p6 p7 p8 p9 p10 p11 p12;go_simp;try rfl) ?_;replace J:=J.tl;try simp only [pN])
  clear J
  refine wpHold_two (i:=1) (j:=3) rfl rfl (by kernel_rfl) (by rfl) (by rfl) (fun K hK=>?_) (fun K hK=>?_)
  ·obtain ⟨w8,hw8,H8'⟩:=al1 we #[.int .i64 1,.int .i64 s.num,.int .i64 3,.int .i64 0,.int .i64 s.ses,.int .i64 0,.int .i64 0,.slice none 0 0,.int .i64 0,.int .i64 0,.int .i64 0,.int .i64 0,.slice none 0 0] 45
   obtain ⟨g8,hp8⟩:∃x,we.heap.size=x:=⟨_,rfl⟩
   rw [hp8] at H8'
   have HW8:Hid (we.alloc (.cells #[.int .i64 1,.int .i64 s.num,.int .i64 3,.int .i64 0,.int .i64 s.ses,.int .i64 0,.int .i64 0,.slice none 0 0,.int .i64 0,.int .i64 0,.int .i64 0,.int .i64 0,.slice none 0 0] 45)=w8/\we.heap.size=g8):=⟨hw8,hp8⟩
   clear hw8 hp8
   go_wp2_with fail
   rw [HW8.out.1,HW8.out.2]
   have H8:Hid (A.grownBy w8 none/\MB w8 mb (.slice none 0 0) (.slice none 0 0) (msgClose s)/\MB w8 g8 (.slice none 0 0) (.slice none 0 0) (msgClose s)/\A.heap.size<=g8):=⟨grown_trans G8.out.1 H8'.out.2.1,G8.out.2.1.grown H8'.out.2.1,H8'.out.1,by rw [<-HW8.out.2];exact G8.out.1.size⟩
   clear HW8 H8'
   refine hK.out _ _ (fun _=>H8.out.2.1) ?_
   clear hK K
   try simp only [pN]
   refine wpHold_one (i:=3) rfl (by kernel_rfl) (by rfl) (fun K hK=>?_)
   go_wp2_with fail
   refine (rgone42 w8 (HD.out.1.grown H8.out.1) HD.out.2.1 HD.out.2.2).mono ?_
   rintro e wz ⟨u,rfl,hu,hd,hkd⟩
   obtain ⟨u1,u2,u3,rfl⟩:=hu.slice
   have HF:Hid (MsgsOwn wz A.heap.size (.slice (some ⟨g8,0,none⟩) 1 1) [msgClose s]/\Rets wz A.heap.size (.slice u1 u2 u3) (s.rets (fun _=>true) 2 [])/\Doc w wz k c s.lost/\KeepD A wz):=⟨close_one (keepD_blk hkd H8.out.2.2.1 (by unfold DT;decide)) H8.out.2.2.2,hu.mono H8.out.1.size,hd,keepD_trans (keepD_grown H8.out.1) hkd⟩
   have HMZ:Hid (MB wz mb (.slice none 0 0) (.slice none 0 0) (msgClose s)):=keepD_blk hkd H8.out.2.1 (by unfold DT;decide)
   clear hu hd hkd
   go_wp2_with fail
   refine hK.out _ _ (fun _=>HMZ.out) ?_
   clear hK K
   try simp only [pN]
   have J:Idx [4,5]:=trivial
   iterate 2 (refine tK J (HMZ.out) rfl rfl (fun wk hk=>by obtain ⟨p0,p1,p2,p3,p4,p5,p6,p7,p8,p9,p10,p11,p12⟩:=MB.cells hk;dsimp only [msgClose,zeroR] at p0 p1 p2 p3 p4 p5 p6 p7 p8 p9 p10 p11 p12;go_simp;try rfl) ?_;replace J:=J.tl;try simp only [pN])
   clear J
   refine wpHold_done (by kernel_rfl) ?_
   refine (‹∀(a:Act) (w:World),Code.wp Tryz.prog _ _ a w->_› _ _ ?_)
   go_wp2_with fail
   go_ret2
   have e1:leaveM s=[msgClose s]:=if_pos HP.out
   have e2:leaveL s=s.rets (fun _=>true) 2 []:=if_pos HP.out
   have e3:leaveS s=s.lost:=if_pos (.inl HP.out)
   unfold RLeaveP
   rw [e1,e2,e3]
   exact ⟨_,_,rfl,HF.out⟩
  ·go_wp2_with fail
   refine (rgone42 we (HD.out.1.grown G8.out.1) HD.out.2.1 HD.out.2.2).mono ?_
   rintro e w9 ⟨u,rfl,hu,hd,hkd⟩
   obtain ⟨u1,u2,u3,rfl⟩:=hu.slice
   have H9:Hid (MB w9 mb (.slice none 0 0) (.slice none 0 0) (msgClose s)/\Rets w9 A.heap.size (.slice u1 u2 u3) (s.rets (fun _=>true) 2 [])/\Doc w w9 k c s.lost/\KeepD A w9):=⟨keepD_blk hkd G8.out.2.1 (by unfold DT;decide),hu.mono G8.out.1.size,hd,keepD_trans (keepD_grown G8.out.1) hkd⟩
   clear hu hd hkd
   go_wp2_with fail
   refine hK.out _ _ (fun _=>H9.out.1) ?_
   clear hK K
   try simp only [pN]
   refine wpHold_one (i:=1) rfl (by kernel_rfl) (by rfl) (fun K hK=>?_)
   obtain ⟨wz,hw8,H8'⟩:=al1 w9 #[.int .i64 1,.int .i64 s.num,.int .i64 3,.int .i64 0,.int .i64 s.ses,.int .i64 0,.int .i64 0,.slice none 0 0,.int .i64 0,.int .i64 0,.int .i64 0,.int .i64 0,.slice none 0 0] 45
   obtain ⟨g8,hp8⟩:∃x,w9.heap.size=x:=⟨_,rfl⟩
   rw [hp8] at H8'
   have HW8:Hid (w9.alloc (.cells #[.int .i64 1,.int .i64 s.num,.int .i64 3,.int .i64 0,.int .i64 s.ses,.int .i64 0,.int .i64 0,.slice none 0 0,.int .i64 0,.int .i64 0,.int .i64 0,.int .i64 0,.slice none 0 0] 45)=wz/\w9.heap.size=g8):=⟨hw8,hp8⟩
   clear hw8 hp8
   go_wp2_with fail
   rw [HW8.out.1,HW8.out.2]
   have HF:Hid (MsgsOwn wz A.heap.size (.slice (some ⟨g8,0,none⟩) 1 1) [msgClose s]/\Rets wz A.heap.size (.slice u1 u2 u3) (s.rets (fun _=>true) 2 [])/\Doc w wz k c s.lost/\KeepD A wz):=by
    obtain ⟨vd,hd⟩:=H9.out.2.2.1
    refine ⟨close_one H8'.out.1 (by rw [<-HW8.out.2];exact H9.out.2.2.2.size),H9.out.2.1.grown H8'.out.2.1,⟨vd,hd.grown H8'.out.2.1⟩,keepD_trans H9.out.2.2.2 (keepD_grown H8'.out.2.1)⟩
   have HMZ:Hid (MB wz mb (.slice none 0 0) (.slice none 0 0) (msgClose s)):=H9.out.1.grown H8'.out.2.1
   clear HW8 H8'
   refine hK.out _ _ (fun _=>HMZ.out) ?_
   clear hK K
   try simp only [pN]
   have J:Idx [4,5]:=trivial
   iterate 2 (refine tK J (HMZ.out) rfl rfl (fun wk hk=>by obtain ⟨p0,p1,p2,p3,p4,p5,p6,p7,p8,p9,p10,p11,p12⟩:=MB.cells hk;dsimp only [msgClose,zeroR] at p0 p1 p2 p3 p4 p5 p6 p7 p8 p9 p10 p11 p12;go_simp;try rfl) ?_;replace J:=J.tl;try simp only [pN])
   clear J
   refine wpHold_done (by kernel_rfl) ?_
   refine (‹∀(a:Act) (w:World),Code.wp Tryz.prog _ _ a w->_› _ _ ?_)
   go_wp2_with fail
   go_ret2
   have e1:leaveM s=[msgClose s]:=if_pos HP.out
   have e2:leaveL s=s.rets (fun _=>true) 2 []:=if_pos HP.out
   have e3:leaveS s=s.lost:=if_pos (.inl HP.out)
   unfold RLeaveP
   rw [e1,e2,e3]
   exact ⟨_,_,rfl,HF.out⟩
variable {s:CS} {w A A':World} {k:Nat} {c:PCfg} {v:Value}
theorem ended_still {P:Nat->Bool}(h:∀j c,s.L[j]? = some (some c)->P j=false)(what:Int)(ans:Bs):s.ended P=s/\s.rets P what ans=[]:=by
 have e:mapUp (endF P) s.L s.L.length=s.L:=by
  apply List.ext_getElem?
  intro i
  rw [mapUp_get]
  cases e:s.L[i]? with
  | none=>rfl
  | some o =>
   have hi:=(List.getElem?_eq_some_iff.1 e).1
   cases o with
   | none=>simp
   | some c=>simp [hi,endF,h i c e]
 refine ⟨?_,gather_nil (fun j c hc=>?_) _⟩
 ·unfold CS.ended
  rw [e]
  rfl
 ·unfold endG
  rw [h j c hc]
  rfl
def Still (s:CS)(r:PRep):Prop:=tellL s r=[]/\tellS s r=s
theorem still_of {r:PRep}(hok:Okc s)(h4:r.kind=4->1<=r.session)(h:s.ses=0/\¬(r.kind=1/\r.token=s.tok)\/s.ses≠0/\(r.session≠s.ses\/(r.kind≠3/\r.kind≠4/\r.kind≠5))):Still s r:=by
 have hno:(s.ses=0\/r.session≠s.ses)->∀j c,s.L[j]? = some (some c)->isR s r j=false:=by
  rintro (h0 | h0) j c hc
  ·rw [hok.none h0] at hc
   simp at hc
  ·unfold isR
   rw [decide_eq_false h0]
   rfl
 unfold Still tellL tellS openedS goneL goneS
 by_cases k1:r.kind=1
 ·rw [if_neg (by omega),if_neg (by omega),if_neg (by omega),if_pos k1,if_neg (by omega)]
  exact ⟨rfl,rfl⟩
 ·by_cases k3:r.kind=3
  ·have:=ended_still (hno (by omega)) 1 r.answer
   rw [if_pos k3,if_neg k1,if_pos k3]
   exact ⟨this.2,this.1⟩
  ·by_cases k4:r.kind=4
   ·have:=h4 k4
    rw [if_neg k3,if_pos k4,if_neg k1,if_neg k3,if_pos k4,if_neg (by omega),if_neg (by omega)]
    exact ⟨rfl,rfl⟩
   ·by_cases k5:r.kind=5
    ·have:=ended_still (hno (by omega)) 2 []
     rw [if_neg k3,if_neg k4,if_pos k5,if_neg k1,if_neg k3,if_neg k4,if_pos k5]
     exact ⟨this.2,this.1⟩
    ·rw [if_neg k3,if_neg k4,if_neg k5,if_neg k1,if_neg k3,if_neg k4,if_neg k5]
     exact ⟨rfl,rfl⟩
def RHearP (w A:World)(k:Nat)(c:PCfg)(s:CS)(m:PMsg)(e:Ending)(A':World):Prop:=∃u,e=.returned u/\Rets A' A.heap.size u (hearL s m)/\Doc w A' k c (hearS s m)/\KeepD A A'
theorem deaf {m:PMsg}(h:hears s m=false):hearL s m=[]/\hearS s m=s:=by
 unfold hearL hearS
 rw [h]
 exact ⟨rfl,rfl⟩
theorem heard {m:PMsg}(h:hears s m=true):hearL s m=tellL s m.tell/\hearS s m=tellS s m.tell:=by
 unfold hearL hearS
 rw [h]
 exact ⟨rfl,rfl⟩
theorem rhear16_no (A:World)(o1:Option Addr)(o2 o3:Nat)(a1:Option Addr)(a2 a3:Nat)(m:PMsg)(h:Dm w A k c v s)(ho:Ops A (.slice o1 o2 o3) m.ask.ops)(ha:Seg A (.slice a1 a2 a3) m.tell.answer)(hl:m.tell.answer.length<=140737488355328)(hn:hears s m=false):Calls Tryz.prog 16 #[.pointer (some ⟨k,0,none⟩),msgV (.slice o1 o2 o3) (.slice a1 a2 a3) m] A (RHearP w A k c s m):=by
 have HD:Hid (Dm w A k c v s/\Ops A (.slice o1 o2 o3) m.ask.ops/\Seg A (.slice a1 a2 a3) m.tell.answer/\m.tell.answer.length<=140737488355328):=⟨h,ho,ha,hl⟩
 have HQ:Hid (hearL s m=[]/\hearS s m=s):=deaf hn
 obtain ⟨w1,hw1,H1⟩:=al1 A #[.int .i64 m.kind,.int .i64 m.client,.int .i64 m.ask.kind,.int .i64 m.ask.token,.int .i64 m.ask.session,.int .i64 m.ask.number,.int .i64 m.ask.mark,.slice o1 o2 o3,.int .i64 m.tell.kind,.int .i64 m.tell.token,.int .i64 m.tell.session,.int .i64 m.tell.number,.slice a1 a2 a3] 45
 obtain ⟨mb,hmb⟩:∃x,A.heap.size=x:=⟨_,rfl⟩
 rw [hmb] at H1
 have HK:Hid (∀y,w1.grownBy y none->MB y mb (.slice o1 o2 o3) (.slice a1 a2 a3) m/\y.cell? ⟨k,0,none⟩=some (.int .i64 s.num)):=fun y hy=>⟨MB.grown H1.out.1 hy,((h.grown H1.out.2.1).grown hy).blk.cell 0⟩
 clear h ho ha hl
 unfold msgV
 go_enter Tryz.func16,Tryz.ntmps16
 go_upto_region 1 with fail
 try rw [hw1]
 try rw [hmb]
 clear hw1 hmb
 refine wp_region_hold 1000 (fun y=>w1.grownBy y none) (by kernel_rfl) ?_
 have w2G:Hid (A.grownBy w1.drew none/\w1.grownBy w1.drew none):=⟨grown_trans H1.out.2.1 (grown_drew _ _),grown_drew _ _⟩
 generalize w1.drew=w2 at w2G ⊢
 by_cases e1:m.kind=2
 ·by_cases e2:m.client=(s.num:Int)
  ·have e3:okM m=false:=by
    unfold hears at hn
    rw [decide_eq_true e1,decide_eq_true e2] at hn
    simpa using hn
   have n1:(m.kind != 2)=false:=by simp [e1]
   have n2:(m.client != (s.num:Int))=false:=by simp [e2]
   clear hn e1 e2
   have J:Idx [0,1,2,3,4,5,6,7,8,9,10,11,12,13,14,15,16,17]:=trivial
   iterate 18 (refine tK J (w2G.out.2) rfl rfl (fun wk hk=>by obtain ⟨hm,k0⟩:=HK.out wk hk;obtain ⟨p0,p1,p2,p3,p4,p5,p6,p7,p8,p9,p10,p11,p12⟩:=MB.cells hm;go_simp;try rfl) ?_;replace J:=J.tl;try simp only [pN])
   clear J
   refine wpHold_one (i:=18) rfl (by kernel_rfl) (by rfl) (fun K hK=>?_)
   go_wp2_with fail
   refine (may13 (.slice o1 o2 o3) (.slice a1 a2 a3) m w2 (HD.out.2.1.grown w2G.out.1) (HD.out.2.2.1.grown w2G.out.1) HD.out.2.2.2).mono ?_
   rintro e w3 ⟨rfl,hg⟩
   rw [e3]
   have w3G:Hid (A.grownBy w3 none/\w1.grownBy w3 none):=⟨grown_trans w2G.out.1 hg,grown_trans w2G.out.2 hg⟩
   clear hg
   go_wp2_with fail
   refine hK.out _ _ (fun _=>w3G.out.2) ?_
   clear hK K
   try simp only [pN]
   have J:Idx [19,20]:=trivial
   iterate 2 (refine tK J (w3G.out.2) rfl rfl (fun wk hk=>by obtain ⟨hm,k0⟩:=HK.out wk hk;obtain ⟨p0,p1,p2,p3,p4,p5,p6,p7,p8,p9,p10,p11,p12⟩:=MB.cells hm;go_simp;try rfl) ?_;replace J:=J.tl;try simp only [pN])
   clear J
   refine wpHold_done (by kernel_rfl) ?_
   refine (‹∀(a:Act) (w:World),Code.wp Tryz.prog _ _ a w->_› _ _ ?_)
   go_wp2_with fail
   go_ret
   have hq:=HQ.out
   exact ⟨_,rfl,by rw [hq.1];exact rets_nil _ _,by rw [hq.2];exact ⟨_,HD.out.1.grown w3G.out.1⟩,keepD_grown w3G.out.1⟩
  ·have n1:(m.kind != 2)=false:=by simp [e1]
   have n2:(m.client != (s.num:Int))=true:=by simp;exact e2
   clear hn e1 e2
   have J:Idx [0,1,2,3,4,5,6,7,8,9,10,11,12,13,14,15,16]:=trivial
   iterate 17 (refine tK J (w2G.out.2) rfl rfl (fun wk hk=>by obtain ⟨hm,k0⟩:=HK.out wk hk;obtain ⟨p0,p1,p2,p3,p4,p5,p6,p7,p8,p9,p10,p11,p12⟩:=MB.cells hm;go_simp;try rfl) ?_;replace J:=J.tl;try simp only [pN])
   clear J
   have J:Idx [17,18,19]:=trivial
   iterate 3 (refine sk J (w2G.out.2) rfl rfl ?_;replace J:=J.tl;try simp only [pN])
   clear J
   have J:Idx [20]:=trivial
   iterate 1 (refine tK J (w2G.out.2) rfl rfl (fun wk hk=>by obtain ⟨hm,k0⟩:=HK.out wk hk;obtain ⟨p0,p1,p2,p3,p4,p5,p6,p7,p8,p9,p10,p11,p12⟩:=MB.cells hm;go_simp;try rfl) ?_;replace J:=J.tl;try simp only [pN])
   clear J
   refine wpHold_done (by kernel_rfl) ?_
   refine (‹∀(a:Act) (w:World),Code.wp Tryz.prog _ _ a w->_› _ _ ?_)
   go_wp2_with fail
   go_ret
   have hq:=HQ.out
   exact ⟨_,rfl,by rw [hq.1];exact rets_nil _ _,by rw [hq.2];exact ⟨_,HD.out.1.grown w2G.out.1⟩,keepD_grown w2G.out.1⟩
 ·have n1:(m.kind != 2)=true:=by simp;exact e1
  clear hn e1
  have J:Idx [0,1,2,3,4,5,6,7]:=trivial
  iterate 8 (refine tK J (w2G.out.2) rfl rfl (fun wk hk=>by obtain ⟨hm,k0⟩:=HK.out wk hk;obtain ⟨p0,p1,p2,p3,p4,p5,p6,p7,p8,p9,p10,p11,p12⟩:=MB.cells hm;go_simp;try rfl) ?_;replace J:=J.tl;try simp only [pN])
  clear J
  have J:Idx [8,9,10,11,12,13,14]:=trivial
  iterate 7 (refine sk J (w2G.out.2) rfl rfl ?_;replace J:=J.tl;try simp only [pN])
  clear J
  have J:Idx [15,16]:=trivial
  iterate 2 (refine tK J (w2G.out.2) rfl rfl (fun wk hk=>by obtain ⟨hm,k0⟩:=HK.out wk hk;obtain ⟨p0,p1,p2,p3,p4,p5,p6,p7,p8,p9,p10,p11,p12⟩:=MB.cells hm;go_simp;try rfl) ?_;replace J:=J.tl;try simp only [pN])
  clear J
  have J:Idx [17,18,19]:=trivial
  iterate 3 (refine sk J (w2G.out.2) rfl rfl ?_;replace J:=J.tl;try simp only [pN])
  clear J
  have J:Idx [20]:=trivial
  iterate 1 (refine tK J (w2G.out.2) rfl rfl (fun wk hk=>by obtain ⟨hm,k0⟩:=HK.out wk hk;obtain ⟨p0,p1,p2,p3,p4,p5,p6,p7,p8,p9,p10,p11,p12⟩:=MB.cells hm;go_simp;try rfl) ?_;replace J:=J.tl;try simp only [pN])
  clear J
  refine wpHold_done (by kernel_rfl) ?_
  refine (‹∀(a:Act) (w:World),Code.wp Tryz.prog _ _ a w->_› _ _ ?_)
  go_wp2_with fail
  go_ret
  have hq:=HQ.out
  exact ⟨_,rfl,by rw [hq.1];exact rets_nil _ _,by rw [hq.2];exact ⟨_,HD.out.1.grown w2G.out.1⟩,keepD_grown w2G.out.1⟩
variable {s:CS} {w A A':World} {k:Nat} {c:PCfg} {v:Value}
def sentD (r:Dr):PSent:=⟨r.id,r.num,r.tm⟩
theorem ropen50 (A:World)(h:Dm w A k c v s)(hok:Okc s):Calls Tryz.prog 50 #[.pointer (some ⟨k,0,none⟩)] A fun e A'=>∃u,e=.returned u/\Sents A' A.heap.size u s.opens/\A.grownBy A' none:=by
 obtain ⟨ao,cap,rfl⟩:=h.sl
 obtain ⟨n,hn⟩:∃n,s.dcs.length=n:=⟨_,rfl⟩
 have HN:Hid (s.dcs.length=n/\n<=1000000000000):=⟨hn,by have:=dcs_len s;have:=hok.last;omega⟩
 have HD:Hid (Dm w A k c (.slice ao s.dcs.length cap) s):=h
 have c10:A.cell? ⟨k,10,none⟩=some (.slice ao n cap):=by rw [<-hn];exact h.blk.cell 10
 have HC:Hid (∀wk,A.grownBy wk none->wk.cell? ⟨k,10,none⟩=some (.slice ao n cap)):=fun wk hk=>hk.cell c10 (by simp)
 clear h hok hn
 go_enter Tryz.func50,Tryz.ntmps50
 go_wp2_with fail
 go_loopw [3,4] (fun u q wr=>∃j:Nat,q=.int .i64 (j:Nat)/\j<=n/\Hid (A.grownBy wr none/\Sents wr A.heap.size u ((s.dcs.take j).map sentD))) (fun _ q _=>n-(intOf q).toNat)
 case atStart=>exact ⟨0,rfl,Nat.zero_le _,grown_refl _ _,sents_nil _ _⟩
 case round =>
  obtain ⟨j,rfl,hj,H⟩:=hrel
  obtain ⟨uo,uc,rfl⟩:=LRow.shape H.out.2
  obtain ⟨un,hun⟩:∃x,((s.dcs.take j).map sentD).length=x:=⟨_,rfl⟩
  have HU:Hid (((s.dcs.take j).map sentD).length=un/\un<=1000000000000):=⟨hun,by have:=HN.out;rw [<-hun];simp;omega⟩
  rw [hun]
  clear hun
  replace c10:=H.out.1.cell c10 (by simp)
  by_cases hlt:j<n
  ·have i1:(j:Int)<(n:Int):=by omega
   have i2:(0:Int)<=(j:Int):=by omega
   have HLJ:Hid (j<n):=hlt
   have d1:IntKind.i64.wrap ((j:Int)+1)=(j:Int)+1:=by have:=HN.out;rw [IntKind.wrap_i64];omega
   have hjl:j<s.dcs.length:=by have:=HN.out.1;omega
   obtain ⟨g,cap',y1,y2,y3,e,q0,q1,q2,q3,q4,q5⟩:=drow_at HD.out.row j hjl
   simp at e
   obtain ⟨rfl,rfl⟩:=e
   have htk:(s.dcs.take (j+1)).map sentD=(s.dcs.take j).map sentD ++ [sentD s.dcs[j]]:=by rw [List.take_succ_eq_append_getElem hjl,List.map_append];rfl
   obtain ⟨x,hx⟩:∃x,s.dcs[j]=x:=⟨_,rfl⟩
   rw [hx] at q0 q1 q2 htk
   have HT:Hid ((s.dcs.take (j+1)).map sentD=(s.dcs.take j).map sentD ++ [sentD x]):=htk
   have HQ:Hid (∀wk,A.grownBy wk none->wk.cell? ⟨g,j*5,none⟩=some (.int .i64 x.id)/\wk.cell? ⟨g,j*5+1,none⟩=some (.int .i64 x.num)/\wk.cell? ⟨g,j*5+2,none⟩=some (.int .i64 x.tm)):=fun wk hk=>⟨hk.cell q0 (by simp),hk.cell q1 (by simp),hk.cell q2 (by simp)⟩
   clear htk hx hjl q0 q1 q2 q3 q4 q5
   go_upto_region 7 with fail
   refine wp_region_hold 1000 (fun y=>A.grownBy y none) (by kernel_rfl) ?_
   have G0:Hid (A.grownBy wr.drew none/\wr.grownBy wr.drew none):=⟨grown_trans H.out.1 (grown_drew _ _),grown_drew _ _⟩
   generalize wr.drew=wd at G0 ⊢
   clear c10
   have J:Idx [0,1,2,3,4,5,6,7,8,9,10,11,12,13,14,15,16,17,18,19,20,21,22,23,24,25]:=trivial
   iterate 26 (refine tK J (G0.out.1) rfl rfl (fun wk hk=>by have p0:=HC.out wk hk;obtain ⟨p1,p2,p3⟩:=HQ.out wk hk;go_simp;try rfl) ?_;replace J:=J.tl;try simp only [pN])
   clear J
   refine wpHold_one (i:=26) rfl (by kernel_rfl) (by rfl) (fun K hK=>?_)
   obtain ⟨w8,hw8,H8'⟩:=al1 wd #[.int .i64 x.id,.int .i64 x.num,.int .i64 x.tm] 113
   obtain ⟨p8,hp8⟩:∃x,wd.heap.size=x:=⟨_,rfl⟩
   rw [hp8] at H8'
   have HW8:Hid (wd.alloc (.cells #[.int .i64 x.id,.int .i64 x.num,.int .i64 x.tm] 113)=w8/\wd.heap.size=p8):=⟨hw8,hp8⟩
   clear hw8 hp8
   go_wp2_with fail
   rw [HW8.out.1,HW8.out.2]
   have H8:Hid (Blk w8 p8 113 #[.int .i64 x.id,.int .i64 x.num,.int .i64 x.tm]/\A.grownBy w8 none/\wr.grownBy w8 none):=⟨H8'.out.1,grown_trans G0.out.1 H8'.out.2.1,grown_trans G0.out.2 H8'.out.2.1⟩
   clear HW8 H8'
   refine hK.out _ _ (fun _=>H8.out.2.1) ?_
   clear hK K
   try simp only [pN]
   refine wpHold_one (i:=27) rfl (by kernel_rfl) (by rfl) (fun K hK=>?_)
   refine appL_wp (t:=113) (c:=3) (by':=24) seR_stab (fun h=>h) 110 ut110 info113 rfl (by decide) (by decide) w8 _ _ rfl A.heap.size (.slice uo un uc) ((s.dcs.take j).map sentD) (sentD x) p8 [.int .i64 x.id,.int .i64 x.num,.int .i64 x.tm] _ rfl rfl ?d5 H8.out.1 rfl rfl rfl (by simp [Value.oneCell']) (by have:=HU.out;omega) H8.out.2.1.size ?_
   case d5 =>
    have:=H.out.2.grown H8.out.2.2
    rw [HU.out.1] at this
    exact this
   intro g9 cap9 w9 hr9 hg9 hv9
   rw [HU.out.1] at hr9 ⊢
   have HZ:Hid (A.grownBy w9 none/\Sents w9 A.heap.size (.slice (some ⟨g9,0,none⟩) (un+1) cap9) ((s.dcs.take (j+1)).map sentD)):=by
    rw [HT.out]
    refine ⟨?_,hr9⟩
    have hrt:=H.out.2.grown H8.out.2.2
    rw [HU.out.1] at hrt
    cases e:(Value.slice uo un uc).ownBlock with
    | none=>rw [e] at hg9;exact grown_trans H8.out.2.1 hg9
    | some q =>
     rw [e] at hg9
     have:=(hrt.blk q e).1
     exact grown_new H8.out.2.1 hg9 (by intro y hy;simp at hy;omega)
   clear hr9 hg9 hv9
   refine hK.out _ _ (fun _=>HZ.out.1) ?_
   clear hK K
   try simp only [pN]
   have J:Idx [28]:=trivial
   iterate 1 (refine tK J (HZ.out.1) rfl rfl (fun wk hk=>by have p0:=HC.out wk hk;obtain ⟨p1,p2,p3⟩:=HQ.out wk hk;go_simp;try rfl) ?_;replace J:=J.tl;try simp only [pN])
   clear J
   refine wpHold_done (by kernel_rfl) ?_
   refine (‹∀(a:Act) (w:World),Code.wp Tryz.prog _ _ a w->_› _ _ ?_)
   go_wp2_with fail
   go_roundw
   case rel=>exact ⟨j+1,by go_num,by have:=HLJ.out;omega,HZ.out⟩
   case measure=>have:=HLJ.out;simp [intOf];omega
  ·have i1:¬(j:Int)<(n:Int):=by omega
   have hjn:j=s.dcs.length:=by have:=HN.out.1;omega
   have HE:Hid (Sents wr A.heap.size (.slice uo un uc) s.opens/\A.grownBy wr none):=by
    have h1:=H.out
    have h2:=HU.out.1
    rw [h2,hjn,List.take_length] at h1
    have e1:s.dcs.map sentD=s.opens:=opens_doc s
    rw [e1] at h1
    exact ⟨h1.2,h1.1⟩
   clear hjn H
   go_wp2_with fail
   go_ret
   exact ⟨_,rfl,HE.out⟩
variable {s:CS} {w A A':World} {b k:Nat} {c:PCfg} {v:Value}
theorem rmark (h:Runs w A b s):Calls Tryz.prog 51 #[.pointer (some ⟨b,0,none⟩)] A fun e A'=>e=.returned (.int .i64 (lead s.L:Nat))/\A'=A:=by
 obtain ⟨Q,F,oa,wo,wc,h⟩:=h
 exact mark_cl A h.cm
theorem ropen (h:Runs w A b s):Calls Tryz.prog 49 #[.pointer (some ⟨b,0,none⟩)] A fun e A'=>∃u,e=.returned u/\Sents A' A.heap.size u s.opens/\A.grownBy A' none:=by
 obtain ⟨Q,F,oa,wo,wc,h⟩:=h
 exact open49 A h.cm
theorem sents_at {B:Nat}{l:List PSent}(h:Sents A B v l)(j:Nat)(hj:j<l.length):∃g cap,v=.slice (some ⟨g,0,none⟩) l.length cap/\A.cell? ⟨g,j*3,none⟩=some (.int .i64 l[j].id)/\A.cell? ⟨g,j*3+1,none⟩=some (.int .i64 l[j].number)/\A.cell? ⟨g,j*3+2,none⟩=some (.int .i64 l[j].tm):=by
 obtain ⟨g,cap,x,e,_,rfl,_,_,hc⟩:=LRow.cell h j hj
 exact ⟨g,cap,e,hc 0 (by decide),hc 1 (by decide),hc 2 (by decide)⟩
theorem stands21 (A:World)(hr:Runs w A b s)(hd:Dm w A k c v s):Calls Tryz.prog 21 #[.pointer (some ⟨b,0,none⟩),.pointer (some ⟨k,0,none⟩)] A fun e A'=>e=.returned (.bool true)/\A.grownBy A' none:=by
 have HH:Hid (Runs w A b s/\Dm w A k c v s):=⟨hr,hd⟩
 obtain ⟨hv,h1,h2⟩:∃hv,decide (0<s.ses)=hv/\(s.ses != 0)=hv:=by
  have:=hr.ok.ses
  by_cases e:s.ses=0
  ·exact ⟨false,by rw [e];rfl,by rw [e];rfl⟩
  ·exact ⟨true,by rw [decide_eq_true_eq];omega,by simp;exact e⟩
 have hb:(hv != hv)=false:=by cases hv <;> rfl
 have HL:Hid (s.opens.length<=1000000000000):=by
  have e1:s.dcs.map sentD=s.opens:=opens_doc s
  have:=dcs_len s
  have:=hr.ok.last
  rw [<-e1]
  unfold Hid
  simp
  omega
 clear hr hd
 go_enter Tryz.func21,Tryz.ntmps21
 go_wp2_with fail
 refine (rsession HH.out.1).mono ?_
 rintro e w1 ⟨rfl,hg⟩
 rw [h1]
 have H1:Hid (A.grownBy w1 none):=hg
 clear hg
 go_wp2_with fail
 refine (ropen (HH.out.1.grown H1.out)).mono ?_
 rintro e w2 ⟨u,rfl,hu,hg⟩
 obtain ⟨uo,uc,rfl⟩:=LRow.shape hu
 have H2:Hid (A.grownBy w2 none/\Sents w2 w1.heap.size (.slice uo s.opens.length uc) s.opens):=⟨grown_trans H1.out hg,hu⟩
 clear hg hu
 go_wp2_with fail
 refine (ropen50 w2 (HH.out.2.grown H2.out.1) HH.out.1.ok).mono ?_
 rintro e w3 ⟨u,rfl,hu,hg⟩
 obtain ⟨vo,vc,rfl⟩:=LRow.shape hu
 obtain ⟨n,hn⟩:∃n,s.opens.length=n:=⟨_,rfl⟩
 have H3:Hid (A.grownBy w3 none/\Sents w3 w1.heap.size (.slice uo s.opens.length uc) s.opens/\Sents w3 w2.heap.size (.slice vo s.opens.length vc) s.opens/\s.opens.length=n):=⟨grown_trans H2.out.1 hg,H2.out.2.grown hg,hu,hn⟩
 rw [hn]
 clear hg hu hn H2
 have HC:Hid (∀y,A.grownBy y none->y.cell? ⟨k,11,none⟩=some (.int .i64 s.ses)/\y.cell? ⟨k,12,none⟩=some (.int .i64 s.tok)/\y.cell? ⟨k,0,none⟩=some (.int .i64 s.num)):=fun y hy=>⟨(HH.out.2.grown hy).blk.cell 11,(HH.out.2.grown hy).blk.cell 12,(HH.out.2.grown hy).blk.cell 0⟩
 have n0:((n:Int) != (n:Int))=false:=by simp
 have n1:(s.ses != s.ses)=false:=by simp
 have n2:(s.tok != s.tok)=false:=by simp
 have n3:(((lead s.L:Nat):Int) != ((lead s.L:Nat):Int))=false:=by simp
 have n4:(((s.num:Nat):Int) != ((s.num:Nat):Int))=false:=by simp
 go_upto_region 6 with fail
 refine wp_region_hold 1000 (fun y=>A.grownBy y none) (by kernel_rfl) ?_
 have G0:Hid (A.grownBy w3.drew none):=grown_trans H3.out.1 (grown_drew _ _)
 have G3:Hid (w3.grownBy w3.drew none):=grown_drew _ _
 generalize w3.drew=wd at G0 G3 ⊢
 have J:Idx [0,1,2,3,4,5,6,7,8,9,10,11,12,13,14,15,16,18,19,20,21]:=trivial
 iterate 21 (refine tK J (G0.out) rfl rfl (fun wk hk=>by obtain ⟨k0,k1,k2⟩:=HC.out wk hk;go_simp;try rfl) ?_;replace J:=J.tl;try simp only [pN])
 clear J
 refine wpHold_one (i:=17) rfl (by kernel_rfl) (by rfl) (fun K hK=>?_)
 go_wp2_with fail
 refine (rtoken (HH.out.1.grown G0.out)).mono ?_
 rintro e w4 ⟨rfl,e4⟩
 subst e4
 go_wp2_with fail
 refine hK.out _ _ (fun _=>G0.out) ?_
 clear hK K
 try simp only [pN]
 have J:Idx [22,23,24,25,27]:=trivial
 iterate 5 (refine tK J (G0.out) rfl rfl (fun wk hk=>by obtain ⟨k0,k1,k2⟩:=HC.out wk hk;go_simp;try rfl) ?_;replace J:=J.tl;try simp only [pN])
 clear J
 refine wpHold_one (i:=26) rfl (by kernel_rfl) (by rfl) (fun K hK=>?_)
 go_wp2_with fail
 refine (rmark (HH.out.1.grown G0.out)).mono ?_
 rintro e w4' ⟨rfl,e4⟩
 have G4:Hid (A.grownBy w4' none/\w3.grownBy w4' none):=by rw [e4];exact ⟨G0.out,G3.out⟩
 clear e4
 go_wp2_with fail
 refine hK.out _ _ (fun _=>G4.out.1) ?_
 clear hK K
 try simp only [pN]
 refine wpHold_one (i:=28) rfl (by kernel_rfl) (by rfl) (fun K hK=>?_)
 go_wp2_with fail
 refine (rmark37 w4' (HH.out.2.grown G4.out.1) HH.out.1.ok).mono ?_
 rintro e w5 ⟨rfl,hg⟩
 have G5:Hid (A.grownBy w5 none/\w3.grownBy w5 none):=⟨grown_trans G4.out.1 hg,grown_trans G4.out.2 hg⟩
 clear hg
 go_wp2_with fail
 refine hK.out _ _ (fun _=>G5.out.1) ?_
 clear hK K
 try simp only [pN]
 have J:Idx [29,30,31,32,34,35,36,37]:=trivial
 iterate 8 (refine tK J (G5.out.1) rfl rfl (fun wk hk=>by obtain ⟨k0,k1,k2⟩:=HC.out wk hk;go_simp;try rfl) ?_;replace J:=J.tl;try simp only [pN])
 clear J
 refine wpHold_one (i:=33) rfl (by kernel_rfl) (by rfl) (fun K hK=>?_)
 go_wp2_with fail
 refine (rnumber (HH.out.1.grown G5.out.1)).mono ?_
 rintro e w6 ⟨rfl,e4⟩
 have G6:Hid (A.grownBy w6 none/\w3.grownBy w6 none):=by rw [e4];exact G5.out
 clear e4
 go_wp2_with fail
 refine hK.out _ _ (fun _=>G6.out.1) ?_
 clear hK K
 try simp only [pN]
 have J:Idx [38,39,40,41,42,43,44,45,46]:=trivial
 iterate 9 (refine tK J (G6.out.1) rfl rfl (fun wk hk=>by obtain ⟨k0,k1,k2⟩:=HC.out wk hk;go_simp;try rfl) ?_;replace J:=J.tl;try simp only [pN])
 clear J
 refine wpHold_done (by kernel_rfl) ?_
 refine (‹∀(a:Act) (w:World),Code.wp Tryz.prog _ _ a w->_› _ _ ?_)
 clear n0 n1 n2 n3 n4 h1 h2 hb
 go_wp2_with fail
 go_loopw [9] (fun q wr=>∃j:Nat,q=.int .i64 (j:Nat)/\j<=n/\Hid (A.grownBy wr none/\w3.grownBy wr none)) (fun q _=>n-(intOf q).toNat)
 case atStart=>exact ⟨0,rfl,Nat.zero_le _,G6⟩
 case round =>
  obtain ⟨j,rfl,hj,G⟩:=hrel
  by_cases hlt:j<n
  ·have i1:(j:Int)<(n:Int):=by omega
   have i2:(0:Int)<=(j:Int):=by omega
   have HLJ:Hid (j<n):=hlt
   have d1:IntKind.i64.wrap ((j:Int)+1)=(j:Int)+1:=by have:=HL.out;have:=H3.out.2.2.2;rw [IntKind.wrap_i64];omega
   have hjl:j<s.opens.length:=by have:=H3.out.2.2.2;omega
   obtain ⟨g,cap,e,m1,m2,m3⟩:=sents_at H3.out.2.1 j hjl
   obtain ⟨g',cap',e',m1',m2',m3'⟩:=sents_at H3.out.2.2.1 j hjl
   simp at e e'
   obtain ⟨rfl,rfl⟩:=e
   obtain ⟨rfl,rfl⟩:=e'
   obtain ⟨x,hx⟩:∃x,s.opens[j]=x:=⟨_,rfl⟩
   rw [hx] at m1 m2 m3 m1' m2' m3'
   have HM:Hid (∀wk,w3.grownBy wk none->wk.cell? ⟨g,j*3,none⟩=some (.int .i64 x.id)/\wk.cell? ⟨g,j*3+1,none⟩=some (.int .i64 x.number)/\wk.cell? ⟨g,j*3+2,none⟩=some (.int .i64 x.tm)/\wk.cell? ⟨g',j*3,none⟩=some (.int .i64 x.id)/\wk.cell? ⟨g',j*3+1,none⟩=some (.int .i64 x.number)/\wk.cell? ⟨g',j*3+2,none⟩=some (.int .i64 x.tm)):=fun wk hk=>⟨hk.cell m1 (by simp),hk.cell m2 (by simp),hk.cell m3 (by simp),hk.cell m1' (by simp),hk.cell m2' (by simp),hk.cell m3' (by simp)⟩
   clear m1 m2 m3 m1' m2' m3' hx hjl
   go_upto_region 11 with fail
   refine wp_region_hold 1000 (fun y=>w3.grownBy y none) (by kernel_rfl) ?_
   have G7:Hid (A.grownBy wr.drew none/\w3.grownBy wr.drew none):=⟨grown_trans G.out.1 (grown_drew _ _),grown_trans G.out.2 (grown_drew _ _)⟩
   generalize wr.drew=we at G7 ⊢
   have J:Idx [0,1,2,3,4,5,6,7,8]:=trivial
   iterate 9 (refine tK J (G7.out.2) rfl rfl (fun wk hk=>by obtain ⟨k0,k1,k2,k3,k4,k5⟩:=HM.out wk hk;go_simp;try rfl) ?_;replace J:=J.tl;try simp only [pN])
   clear J
   refine wpHold_done (by kernel_rfl) ?_
   refine (‹∀(a:Act) (w:World),Code.wp Tryz.prog _ _ a w->_› _ _ ?_)
   go_wp2_with fail
   go_roundw
   case rel=>exact ⟨j+1,by go_num,by have:=HLJ.out;omega,G7⟩
   case measure=>have:=HLJ.out;simp [intOf];omega
  ·have i1:¬(j:Int)<(n:Int):=by omega
   go_wp2_with fail
   go_ret
   exact ⟨rfl,G.out.1⟩
theorem msgs_full {A:World}{B:Nat}{v:Value}{l:List PMsg}(hm:MsgsOwn A B v l)(k:Nat)(hk:k<l.length):∃g cap y1 y2 y3 z1 z2 z3,v=.slice (some ⟨g,0,none⟩) l.length cap/\MsAt A g (k*13) (.slice y1 y2 y3) (.slice z1 z2 z3) l[k]/\Ops A (.slice y1 y2 y3) l[k].ask.ops/\Seg A (.slice z1 z2 z3) l[k].tell.answer:=by
 obtain ⟨g,cap,cs,e,hl,⟨ov,av,rfl,ho,ha⟩,_,_,hc⟩:=hm.1.cell k hk
 obtain ⟨y1,y2,y3,rfl,_⟩:=ho.slice
 obtain ⟨z1,z2,z3,rfl⟩:=isSl_on ha
 exact ⟨g,cap,y1,y2,y3,z1,z2,z3,e,⟨hc 0 (by decide),hc 1 (by decide),hc 2 (by decide),hc 3 (by decide),hc 4 (by decide),hc 5 (by decide),hc 6 (by decide),hc 7 (by decide),hc 8 (by decide),hc 9 (by decide),hc 10 (by decide),hc 11 (by decide),hc 12 (by decide)⟩,ho.ops,ha.seg⟩
theorem sameAll13 (A:World)(B B':Nat)(u v:Value)(l:List PMsg)(hu:MsgsOwn A B u l)(hv:MsgsOwn A B' v l):Calls Tryz.prog 13 #[u,v] A fun e A'=>e=.returned (.bool true)/\A.grownBy A' none:=by
 obtain ⟨u1,n,u3,rfl,hn⟩:=hu.slice
 obtain ⟨v1,n',v3,rfl,hn'⟩:=hv.slice
 have HN:Hid (l.length=n/\n<=1034834473200):=⟨hn.symm,by rw [hn];exact hu.2⟩
 have hnn:n'=n:=by omega
 subst hnn
 have HH:Hid (MsgsOwn A B (.slice u1 n' u3) l/\MsgsOwn A B' (.slice v1 n' v3) l):=⟨hu,hv⟩
 have e0:((n':Int) != (n':Int))=false:=by simp
 clear hu hv hn hn'
 go_enter Tryz.func13,Tryz.ntmps13
 go_wp2_with fail
 go_loopw [5] (fun q wr=>∃j:Nat,q=.int .i64 (j:Nat)/\j<=n'/\Hid (A.grownBy wr none)) (fun q _=>n'-(intOf q).toNat)
 case atStart=>exact ⟨0,rfl,Nat.zero_le _,grown_refl _ _⟩
 case round =>
  obtain ⟨j,rfl,hj,G⟩:=hrel
  by_cases hlt:j<n'
  ·have i1:(j:Int)<(n':Int):=by omega
   have i2:(0:Int)<=(j:Int):=by omega
   have HLJ:Hid (j<n'):=hlt
   have d1:IntKind.i64.wrap ((j:Int)+1)=(j:Int)+1:=by have:=HN.out;rw [IntKind.wrap_i64];omega
   have hjl:j<l.length:=by have:=HN.out.1;omega
   obtain ⟨g,cap,y1,y2,y3,z1,z2,z3,e,m1,ho1,ha1⟩:=msgs_full HH.out.1 j hjl
   obtain ⟨g',cap',y1',y2',y3',z1',z2',z3',e',m2,ho2,ha2⟩:=msgs_full HH.out.2 j hjl
   simp at e e'
   obtain ⟨rfl,en,rfl⟩:=e
   clear en
   obtain ⟨rfl,en,rfl⟩:=e'
   clear en
   obtain ⟨x,hx⟩:∃x,l[j]=x:=⟨_,rfl⟩
   rw [hx] at m1 m2 ho1 ho2 ha1 ha2
   have HM:Hid ((∀wk,A.grownBy wk none->MsAt wk g (j*13) (.slice y1 y2 y3) (.slice z1 z2 z3) x/\MsAt wk g' (j*13) (.slice y1' y2' y3') (.slice z1' z2' z3') x)/\Ops A (.slice y1 y2 y3) x.ask.ops/\Seg A (.slice z1 z2 z3) x.tell.answer/\Ops A (.slice y1' y2' y3') x.ask.ops/\Seg A (.slice z1' z2' z3') x.tell.answer):=⟨fun wk hk=>⟨m1.grown hk,m2.grown hk⟩,ho1,ha1,ho2,ha2⟩
   clear m1 m2 ho1 ho2 ha1 ha2 hx hjl
   go_upto_region 6 with fail
   refine wp_region_hold 1000 (fun y=>A.grownBy y none) (by kernel_rfl) ?_
   have G0:Hid (A.grownBy wr.drew none):=grown_trans G.out (grown_drew _ _)
   generalize wr.drew=wd at G0 ⊢
   have J:Idx [0,1,2,3,4,5,6,7]:=trivial
   iterate 8 (refine tK J (G0.out) rfl rfl (fun wk hk=>by obtain ⟨⟨k0,k1,k2,k3,k4,k5,k6,k7,k8,k9,k10,k11,k12⟩,⟨n0,n1,n2,n3,n4,n5,n6,n7,n8,n9,n10,n11,n12⟩⟩:=HM.out.1 wk hk;rw [Nat.add_zero] at k0 n0;go_simp;try rfl) ?_;replace J:=J.tl;try simp only [pN])
   clear J
   refine wpHold_one (i:=8) rfl (by kernel_rfl) (by rfl) (fun K hK=>?_)
   go_wp2_with fail
   refine (same16m (.slice y1 y2 y3) (.slice z1 z2 z3) (.slice y1' y2' y3') (.slice z1' z2' z3') x x wd (HM.out.2.1.grown G0.out) (HM.out.2.2.1.grown G0.out) (HM.out.2.2.2.1.grown G0.out) (HM.out.2.2.2.2.grown G0.out)).mono ?_
   rintro e w3 ⟨rfl,hg⟩
   rw [decide_eq_true (rfl:x=x)]
   have G3:Hid (A.grownBy w3 none):=grown_trans G0.out hg
   clear hg
   go_wp2_with fail
   refine hK.out _ _ (fun _=>G3.out) ?_
   clear hK K
   try simp only [pN]
   have J:Idx [9]:=trivial
   iterate 1 (refine tK J (G3.out) rfl rfl (fun wk hk=>by obtain ⟨⟨k0,k1,k2,k3,k4,k5,k6,k7,k8,k9,k10,k11,k12⟩,⟨n0,n1,n2,n3,n4,n5,n6,n7,n8,n9,n10,n11,n12⟩⟩:=HM.out.1 wk hk;rw [Nat.add_zero] at k0 n0;go_simp;try rfl) ?_;replace J:=J.tl;try simp only [pN])
   clear J
   refine wpHold_done (by kernel_rfl) ?_
   refine (‹∀(a:Act) (w:World),Code.wp Tryz.prog _ _ a w->_› _ _ ?_)
   go_wp2_with fail
   go_roundw
   case rel=>exact ⟨j+1,by go_num,by have:=HLJ.out;omega,G3⟩
   case measure=>have:=HLJ.out;simp [intOf];omega
  ·have i1:¬(j:Int)<(n':Int):=by omega
   go_wp2_with fail
   go_ret
   exact ⟨rfl,G.out⟩
theorem rets_full {A:World}{B:Nat}{v:Value}{l:List PRet}(h:Rets A B v l)(j:Nat)(hj:j<l.length):∃g cap z1 z2 z3,v=.slice (some ⟨g,0,none⟩) l.length cap/\A.cell? ⟨g,j*3,none⟩=some (.int .i64 l[j].id)/\A.cell? ⟨g,j*3+1,none⟩=some (.int .i64 l[j].what)/\A.cell? ⟨g,j*3+2,none⟩=some (.slice z1 z2 z3)/\Seg A (.slice z1 z2 z3) l[j].ans:=by
 obtain ⟨g,cap,x,e,_,⟨av,rfl,ha⟩,_,_,hc⟩:=LRow.cell h j hj
 obtain ⟨z1,z2,z3,rfl⟩:=isSl_on ha
 exact ⟨g,cap,z1,z2,z3,e,hc 0 (by decide),hc 1 (by decide),hc 2 (by decide),ha.seg⟩
theorem sameReturns15 (A:World)(B B':Nat)(u v:Value)(l:List PRet)(hu:Rets A B u l)(hv:Rets A B' v l)(hl:l.length<=1000000000000):Calls Tryz.prog 15 #[u,v] A fun e A'=>e=.returned (.bool true)/\A.grownBy A' none:=by
 obtain ⟨u1,u3,rfl⟩:=LRow.shape hu
 obtain ⟨v1,v3,rfl⟩:=LRow.shape hv
 obtain ⟨n,hn⟩:∃n,l.length=n:=⟨_,rfl⟩
 have HN:Hid (l.length=n/\n<=1000000000000):=⟨hn,by omega⟩
 have HH:Hid (Rets A B (.slice u1 l.length u3) l/\Rets A B' (.slice v1 l.length v3) l):=⟨hu,hv⟩
 have e0:((n:Int) != (n:Int))=false:=by simp
 rw [hn]
 clear hu hv hn hl
 go_enter Tryz.func15,Tryz.ntmps15
 go_wp2_with fail
 go_loopw [5] (fun q wr=>∃j:Nat,q=.int .i64 (j:Nat)/\j<=n/\Hid (A.grownBy wr none)) (fun q _=>n-(intOf q).toNat)
 case atStart=>exact ⟨0,rfl,Nat.zero_le _,grown_refl _ _⟩
 case round =>
  obtain ⟨j,rfl,hj,G⟩:=hrel
  by_cases hlt:j<n
  ·have i1:(j:Int)<(n:Int):=by omega
   have i2:(0:Int)<=(j:Int):=by omega
   have HLJ:Hid (j<n):=hlt
   have d1:IntKind.i64.wrap ((j:Int)+1)=(j:Int)+1:=by have:=HN.out;rw [IntKind.wrap_i64];omega
   have hjl:j<l.length:=by have:=HN.out.1;omega
   obtain ⟨g,cap,z1,z2,z3,e,m1,m2,m3,m4⟩:=rets_full HH.out.1 j hjl
   obtain ⟨g',cap',z1',z2',z3',e',m1',m2',m3',m4'⟩:=rets_full HH.out.2 j hjl
   simp at e e'
   obtain ⟨rfl,rfl⟩:=e
   obtain ⟨rfl,rfl⟩:=e'
   obtain ⟨x,hx⟩:∃x,l[j]=x:=⟨_,rfl⟩
   rw [hx] at m1 m2 m4 m1' m2' m4'
   have HM:Hid (∀wk,A.grownBy wk none->wk.cell? ⟨g,j*3,none⟩=some (.int .i64 x.id)/\wk.cell? ⟨g,j*3+1,none⟩=some (.int .i64 x.what)/\wk.cell? ⟨g,j*3+2,none⟩=some (.slice z1 z2 z3)/\wk.cell? ⟨g',j*3,none⟩=some (.int .i64 x.id)/\wk.cell? ⟨g',j*3+1,none⟩=some (.int .i64 x.what)/\wk.cell? ⟨g',j*3+2,none⟩=some (.slice z1' z2' z3')/\(convert 41 9 (.slice z1 z2 z3)).run Tryz.prog wk=.ok (.string ⟨x.ans.toArray⟩) wk/\(convert 41 9 (.slice z1' z2' z3')).run Tryz.prog wk=.ok (.string ⟨x.ans.toArray⟩) wk):=fun wk hk=>⟨hk.cell m1 (by simp),hk.cell m2 (by simp),hk.cell m3 (by simp),hk.cell m1' (by simp),hk.cell m2' (by simp),hk.cell m3' (by simp),seg_str (m4.grown hk),seg_str (m4'.grown hk)⟩
   have e1:(x.id != x.id)=false:=by simp
   have e2:(x.what != x.what)=false:=by simp
   clear m1 m2 m3 m4 m1' m2' m3' m4' hx hjl
   go_upto_region 6 with fail
   refine wp_region_hold 1000 (fun y=>A.grownBy y none) (by kernel_rfl) ?_
   have G0:Hid (A.grownBy wr.drew none):=grown_trans G.out (grown_drew _ _)
   generalize wr.drew=wd at G0 ⊢
   have J:Idx [0,1,2,3,4,5,6,7,8,9,10,11,12,13,14,15,16,17,18,19,20,21,22,23,24,25,26,27,28,29,30,31,32,33,34,35,36,37,38]:=trivial
   iterate 39 (refine tK J (G0.out) rfl rfl (fun wk hk=>by obtain ⟨k0,k1,k2,k3,k4,k5,k6,k7⟩:=HM.out wk hk;go_simp;try rfl) ?_;replace J:=J.tl;try simp only [pN])
   clear J
   refine wpHold_done (by kernel_rfl) ?_
   refine (‹∀(a:Act) (w:World),Code.wp Tryz.prog _ _ a w->_› _ _ ?_)
   go_wp2_with fail
   go_roundw
   case rel=>exact ⟨j+1,by go_num,by have:=HLJ.out;omega,G0⟩
   case measure=>have:=HLJ.out;simp [intOf];omega
  ·have i1:¬(j:Int)<(n:Int):=by omega
   go_wp2_with fail
   go_ret
   exact ⟨rfl,G.out⟩
end Go.Proofs.YtanoabliahcbeaaGreat.Wn
