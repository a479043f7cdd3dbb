import Derived.Test.YtanoabliahcbeaaGreatCdxAll
import Derived.Test.YtanoabliahcbeaaGreatCnAll
import Derived.Deep.DeepCutAuto
set_option maxHeartbeats 4000000
set_option maxRecDepth 100000
namespace Go.Proofs.YtanoabliahcbeaaGreat.Calls
open Go.RowKit Disk
open Names (Str)
structure RK (w:World)(d ob:Nat)(ao:Option Addr)(cap:Nat)(L:Bs)(k:Nat)(b:Bool):Prop where
 seg:Seg w (.slice ao L.length cap) L
 rf:Blk w d 205 #[.slice ao L.length cap,.int .i64 k]
 ok:Blk w ob 4 #[.bool b]
 le:k<=L.length
 zz:L.length<=140737488355328
def RF (d ob:Nat):Nat->Prop:=fun i=>i=d\/i=ob
theorem RK.ne {w:World}{d ob:Nat}{ao:Option Addr}{cap:Nat}{L:Bs}{k:Nat}{b:Bool}(h:RK w d ob ao cap L k b):d≠ob:=by
 intro e
 have h1:=h.rf
 have h2:=h.ok
 rw [e] at h1
 unfold Blk at h1 h2
 rw [h1] at h2
 simp at h2
theorem RK.grown {w w':World}{d ob:Nat}{ao:Option Addr}{cap:Nat}{L:Bs}{k:Nat}{b:Bool}(h:RK w d ob ao cap L k b)(hg:w.grownBy w' none):RK w' d ob ao cap L k b :=
 ⟨h.seg.grown hg,h.rf.grown hg (by simp),h.ok.grown hg (by simp),h.le,h.zz⟩
theorem seg_blk {w w':World}{v:Value}{L:Bs}{g t:Nat}{c:Array Value}(h:Seg w v L)(hb:Blk w g t c)(hc:∀(j:Nat) (x:Int),c[j]?≠some (Value.int .u8 x))(hg:w.grownBy w' (some g)):Seg w' v L:=by
 refine h.of_cells fun b j x hx=>?_
 refine hg.cell hx ?_
 intro e
 have:b=g:=by simpa using e
 subst this
 rw [hb.cell j] at hx
 exact hc j x hx
theorem RK.at {w w':World}{d ob:Nat}{ao:Option Addr}{cap:Nat}{L:Bs}{k k':Nat}{b:Bool}(h:RK w d ob ao cap L k b)(hk:k'<=L.length)(hb:Blk w' d 205 #[.slice ao L.length cap,.int .i64 k'])(hg:w.grownBy w' (some d)):RK w' d ob ao cap L k' b:=by
 refine ⟨seg_blk h.seg h.rf (fun j x=>?_) hg,hb,h.ok.grown hg (by simp;exact h.ne),hk,h.zz⟩
 match j with
 | 0=>simp
 | 1=>simp
 | j+2=>simp
theorem RK.say {w:World}{d ob:Nat}{ao:Option Addr}{cap:Nat}{L:Bs}{k:Nat}{b:Bool}(h:RK w d ob ao cap L k b)(b':Bool):RK (w.setCell ⟨ob,0,none⟩ (.bool b')) d ob ao cap L k b':=by
 refine ⟨seg_blk h.seg h.ok (fun j x=>?_) (grown_setCell w ob 0 _),h.rf.grown (grown_setCell w ob 0 _) (by simp;exact h.ne.symm),h.ok.store 0 _,h.le,h.zz⟩
 match j with
 | 0=>simp
 | j+1=>simp
theorem fr_d {w w':World}{d ob:Nat}(h:w.grownBy w' (some d)):Fr w w' (RF d ob):=Fr.of h (fun k hk=>by simp at hk;exact Or.inl hk.symm)
theorem fr_ob {w:World}{d ob:Nat}(v:Value):Fr w (w.setCell ⟨ob,0,none⟩ v) (RF d ob):=Fr.of (grown_setCell w ob 0 v) (fun k hk=>by simp at hk;exact Or.inr hk.symm)
theorem fr_n {w w':World}{d ob:Nat}(h:w.grownBy w' none):Fr w w' (RF d ob):=Fr.of h (fun k hk=>by cases hk)
theorem fr_t {a b c:World}{d ob:Nat}(h:Fr a b (RF d ob))(k:Fr b c (RF d ob)):Fr a c (RF d ob):=h.trans k (fun _ h=>Or.inl h)
theorem own_fr {w w':World}{d ob:Nat}{ao:Option Addr}{cap:Nat}{L M:Bs}{k B:Nat}{b:Bool}{v:Value}(h:Own w B v M)(hr:RK w d ob ao cap L k b)(hf:Fr w w' (RF d ob)):Own w' B v M:=by
 refine Own.same h fun q hq=>hf.block q (h.lt q hq).2 fun e=>?_
 rcases e with rfl | rfl
 ·exact h.other hr.rf (by decide) hq
 ·exact h.other hr.ok (by decide) hq
theorem blk_fr {w w':World}{d ob g t:Nat}{ao:Option Addr}{cap:Nat}{L:Bs}{k:Nat}{b:Bool}{c:Array Value}(h:Blk w g t c)(hr:RK w d ob ao cap L k b)(hf:Fr w w' (RF d ob))(h1:t≠205)(h2:t≠4):Blk w' g t c:=by
 refine h.same (hf.block g h.lt fun e=>?_)
 rcases e with rfl | rfl
 ·have h3:=hr.rf
  unfold Blk at h h3
  rw [h] at h3
  simp at h3
  exact h1 h3.2
 ·have h3:=hr.ok
  unfold Blk at h h3
  rw [h] at h3
  simp at h3
  exact h2 h3.2
theorem and30 (x:Nat)(h:x<2 ^ 64):bits .and .u64 (x:Int) 1073741823=((x % 1073741824:Nat):Int):=by
 have h1:=bits_and_u64_nat x 1073741823 (by omega) (by omega)
 rw [show (1073741823:Nat)=2 ^ 30-1 by decide,Nat.and_two_pow_sub_one_eq_mod] at h1
 exact h1
def DkPost (d ob:Nat)(ao:Option Addr)(cap:Nat)(L:Bs)(k':Nat)(b':Bool)(w w':World):Prop:=RK w' d ob ao cap L k' b'/\Fr w w' (RF d ob)
theorem rdNum_form {m:Nat}{N M:Bs}(hm:m<2 ^ 64)(h:N=Wire.numForm m ++ M):Wire.rdNum N=(m,0,M):=by
 rw [h,Wire.rdNum_some (Wire.scan_num m hm M),List.drop_left]
theorem number49 (d ob:Nat)(ao:Option Addr)(cap:Nat)(L:Bs)(k:Nat)(b:Bool)(w:World)(h:RK w d ob ao cap L k b) :
  Calls Tryz.prog 134 #[.pointer (some ⟨d,0,none⟩),.pointer (some ⟨ob,0,none⟩)] w fun e w'=>∃n k' b',e=.returned (.int .i64 ((n:Nat):Int))/\n<1073741824/\DkPost d ob ao cap L k' b' w w'/\(∀m M,b=true->m<1073741824->L.drop k=Wire.numForm m ++ M->n=m/\L.drop k'=M/\b'=true):=by
 have HR:Hid (RK w d ob ao cap L k b):=h
 clear h
 go_enter Tryz.func134,Tryz.ntmps134
 go_wp2_with (go_at_call 161;refine (Wire.number39 d ao cap k L _ HR.out.rf HR.out.seg HR.out.le).mono ?_)
 rintro e w1 ⟨rfl,k',hk',hM,hrf,hg⟩
 have H1:Hid (RK w1 d ob ao cap L k' b/\Fr w w1 (RF d ob)):=⟨HR.out.at hk' hrf hg,fr_d hg⟩
 have hx64:=Wire.rdNum_lt (L.drop k)
 have HS:Hid (∀m M,m<1073741824->L.drop k=Wire.numForm m ++ M->(Wire.rdNum (L.drop k)).1=m/\L.drop k'=M/\(Wire.rdNum (L.drop k)).2.1=0):=by
  intro m M hm e
  have:=rdNum_form (by omega) e
  rw [this] at hM ⊢
  exact ⟨rfl,hM,rfl⟩
 obtain ⟨x,hx⟩:∃x,(Wire.rdNum (L.drop k)).1=x:=⟨_,rfl⟩
 obtain ⟨er,her⟩:∃x,(Wire.rdNum (L.drop k)).2.1=x:=⟨_,rfl⟩
 rw [hx] at hx64 HS ⊢
 rw [her] at HS ⊢
 clear hx her hM hrf hg hk'
 have c0:=H1.out.1.ok.cell 0
 have c1:=H1.out.1.ok.free 0
 have w30:Hid (wrap64 (bits .and .u64 (x:Int) 1073741823)=((x % 1073741824:Nat):Int)):=by
  unfold Hid
  rw [and30 x hx64]
  unfold wrap64
  omega
 have b30:x % 1073741824<1073741824:=Nat.mod_lt _ (by decide)
 go_wp2_with fail
 ·go_ret
  refine ⟨x % 1073741824,k',decide ((x:Int)<1073741824),?_,b30,⟨H1.out.1.say _,fr_t H1.out.2 (fr_ob _)⟩,fun m M _ hm e=>?_⟩
  ·rw [w30.out];rfl
  ·obtain ⟨h1,h2,_⟩:=HS.out m M hm e
   subst h1
   exact ⟨Nat.mod_eq_of_lt hm,h2,decide_eq_true (by omega)⟩
 ·go_ret
  refine ⟨x % 1073741824,k',false,?_,b30,⟨H1.out.1.say _,fr_t H1.out.2 (fr_ob _)⟩,fun m M _ hm e=>?_⟩
  ·rw [w30.out];rfl
  ·obtain ⟨_,_,h3⟩:=HS.out m M hm e
   simp_all
 ·go_ret
  refine ⟨x % 1073741824,k',false,?_,b30,⟨H1.out.1.say _,fr_t H1.out.2 (fr_ob _)⟩,fun m M hb _ _=>?_⟩
  ·rw [w30.out];rfl
  ·simp_all
theorem bytes42_any (d:Nat)(ao:Option Addr)(cap:Nat)(L:Bs)(k:Nat)(w:World)(hr:Blk w d 205 #[.slice ao L.length cap,.int .i64 k])(hs:Seg w (.slice ao L.length cap) L)(hk:k<=L.length)(hz:L.length<=140737488355328) :
  Calls Tryz.prog 163 #[.pointer (some ⟨d,0,none⟩),.int .i64 4096] w fun e w'=>∃v out er k',e=.returned (.tuple #[v,.int .i64 er])/\Own w' w.heap.size v out/\k'<=L.length/\Blk w' d 205 #[.slice ao L.length cap,.int .i64 k']/\w.grownBy w' (some d)/\(∀p M,p.length<=4096->L.drop k=bytesForm p ++ M->out=p/\L.drop k'=M/\er=0):=by
 have hform:∀p M,p.length<=4096->L.drop k=bytesForm p ++ M->Wire.scan 0 0 (L.drop k)=some (p.length,(Wire.numForm p.length).length)/\L.drop (k+(Wire.numForm p.length).length)=p ++ M/\p.length<=L.length-(k+(Wire.numForm p.length).length):=by
  intro p M hp e
  unfold bytesForm at e
  rw [List.append_assoc] at e
  refine ⟨by rw [e];exact Wire.scan_num _ (by omega) _,by rw [<-List.drop_drop,e,List.drop_left],?_⟩
  have:=congrArg List.length e
  simp at this
  omega
 cases hn:Wire.scan 0 0 (L.drop k) with
 | none =>
  refine (Wire.bytes42_none d ao cap k L 4096 w hr hs hk hn).mono ?_
  rintro e w' ⟨rfl,h1,h2⟩
  exact ⟨_,[],4,k,rfl,Own.nil _ _,hk,h1,h2,fun p M hp e=>by rw [(hform p M hp e).1] at hn;cases hn⟩
 | some y =>
  obtain ⟨n,m⟩:=y
  by_cases hl:(4096:Int)<(n:Int)
  ·refine (Wire.bytes42_long d ao cap k L 4096 w n m hr hs hk (by omega) (by omega) hn hl).mono ?_
   rintro e w' ⟨rfl,h1,h2⟩
   refine ⟨_,[],3,k,rfl,Own.nil _ _,hk,h1,h2,fun p M hp e=>?_⟩
   have:=(hform p M hp e).1
   rw [hn] at this
   simp at this
   omega
  ·by_cases hf:L.length-(k+m)<n
   ·refine (Wire.bytes42_few d ao cap k L 4096 w n m hr hs hk (by omega) (by omega) hn hl hf).mono ?_
    rintro e w' ⟨rfl,h1,h2⟩
    refine ⟨_,[],4,k,rfl,Own.nil _ _,hk,h1,h2,fun p M hp e=>?_⟩
    obtain ⟨g1,_,g3⟩:=hform p M hp e
    rw [hn] at g1
    simp at g1
    obtain ⟨rfl,rfl⟩:=g1
    omega
   ·refine (Wire.bytes42_ok d ao cap k L 4096 w n m hr hs hk (by omega) (by omega) hn hl hf (by omega)).mono ?_
    rintro e w' ⟨v,rfl,ho,h1,h2⟩
    have hb:=Wire.scan_bound (L.drop k) 0 0 (by omega) (by simp) n m hn
    have hm:m<=(L.drop k).length:=by simp at hb ⊢;omega
    rw [List.length_drop] at hm
    refine ⟨v,_,0,k+m+n,rfl,ho,by omega,h1,h2,fun p M hp e=>?_⟩
    obtain ⟨g1,g2,_⟩:=hform p M hp e
    rw [hn] at g1
    simp at g1
    obtain ⟨rfl,rfl⟩:=g1
    rw [g2]
    refine ⟨List.take_left,?_,rfl⟩
    rw [<-List.drop_drop,g2,List.drop_left]
theorem piece63 (d ob:Nat)(ao:Option Addr)(cap:Nat)(L:Bs)(k:Nat)(b:Bool)(w:World)(h:RK w d ob ao cap L k b) :
  Calls Tryz.prog 136 #[.pointer (some ⟨d,0,none⟩),.pointer (some ⟨ob,0,none⟩)] w fun e w'=>∃v out k' b',e=.returned v/\Own w' w.heap.size v out/\DkPost d ob ao cap L k' b' w w'/\(∀p M,b=true->p.length<=4096->L.drop k=bytesForm p ++ M->out=p/\L.drop k'=M/\b'=true):=by
 have HR:Hid (RK w d ob ao cap L k b):=h
 clear h
 go_enter Tryz.func136,Tryz.ntmps136
 go_wp2_with (go_at_call 163;refine (bytes42_any d ao cap L k _ HR.out.rf HR.out.seg HR.out.le HR.out.zz).mono ?_)
 rintro e w1 ⟨v,out,er,k',rfl,ho,hk',hrf,hg,hS⟩
 have H1:Hid (RK w1 d ob ao cap L k' b/\Fr w w1 (RF d ob)/\Own w1 w.heap.size v out/\w.grownBy w1 (some d)):=⟨HR.out.at hk' hrf hg,fr_d hg,ho,hg⟩
 have HS:Hid (∀p M,p.length<=4096->L.drop k=bytesForm p ++ M->out=p/\L.drop k'=M/\er=0):=hS
 clear hk' hrf hg ho hS
 have c0:=H1.out.1.ok.cell 0
 have c1:=H1.out.1.ok.free 0
 go_wp2_with fail
 ·go_ret
  refine ⟨v,out,k',er==0,rfl,own_fr H1.out.2.2.1 H1.out.1 (fr_ob _),⟨H1.out.1.say _,fr_t H1.out.2.1 (fr_ob _)⟩,fun p M _ hp e=>?_⟩
  obtain ⟨h1,h2,h3⟩:=HS.out p M hp e
  exact ⟨h1,h2,by rw [h3];rfl⟩
 ·go_ret
  refine ⟨v,out,k',false,rfl,own_fr H1.out.2.2.1 H1.out.1 (fr_ob _),⟨H1.out.1.say _,fr_t H1.out.2.1 (fr_ob _)⟩,fun p M hb _ _=>?_⟩
  simp_all
theorem rdFlag_form {is:Bool}{N M:Bs}(h:N=flagForm is ++ M):Wire.rdFlag N=(is,0,M):=by
 subst h
 cases is <;> simp [flagForm,Wire.rdFlag]
theorem flag62 (d ob:Nat)(ao:Option Addr)(cap:Nat)(L:Bs)(k:Nat)(b:Bool)(w:World)(h:RK w d ob ao cap L k b) :
  Calls Tryz.prog 135 #[.pointer (some ⟨d,0,none⟩),.pointer (some ⟨ob,0,none⟩)] w fun e w'=>∃is k' b',e=.returned (.bool is)/\DkPost d ob ao cap L k' b' w w'/\(∀p M,b=true->L.drop k=flagForm p ++ M->is=p/\L.drop k'=M/\b'=true):=by
 have HR:Hid (RK w d ob ao cap L k b):=h
 clear h
 go_enter Tryz.func135,Tryz.ntmps135
 go_wp2_with (go_at_call 162;refine (Wire.flag41 d ao cap k L _ HR.out.rf HR.out.seg HR.out.le).mono ?_)
 rintro e w1 ⟨rfl,k',hk',hM,hrf,hg⟩
 have H1:Hid (RK w1 d ob ao cap L k' b/\Fr w w1 (RF d ob)):=⟨HR.out.at hk' hrf hg,fr_d hg⟩
 have HS:Hid (∀p M,L.drop k=flagForm p ++ M->(Wire.rdFlag (L.drop k)).1=p/\L.drop k'=M/\(Wire.rdFlag (L.drop k)).2.1=0):=by
  intro p M e
  have:=rdFlag_form e
  rw [this] at hM ⊢
  exact ⟨rfl,hM,rfl⟩
 obtain ⟨x,hx⟩:∃x,(Wire.rdFlag (L.drop k)).1=x:=⟨_,rfl⟩
 obtain ⟨er,her⟩:∃x,(Wire.rdFlag (L.drop k)).2.1=x:=⟨_,rfl⟩
 rw [hx] at HS ⊢
 rw [her] at HS ⊢
 clear hx her hM hrf hg hk'
 have c0:=H1.out.1.ok.cell 0
 have c1:=H1.out.1.ok.free 0
 go_wp2_with fail
 ·go_ret
  refine ⟨x,k',er==0,rfl,⟨H1.out.1.say _,fr_t H1.out.2 (fr_ob _)⟩,fun p M _ e=>?_⟩
  obtain ⟨h1,h2,h3⟩:=HS.out p M e
  exact ⟨h1,h2,by rw [h3];rfl⟩
 ·go_ret
  refine ⟨x,k',false,rfl,⟨H1.out.1.say _,fr_t H1.out.2 (fr_ob _)⟩,fun p M hb _=>?_⟩
  simp_all
theorem RK.other {w w':World}{d ob g t:Nat}{ao:Option Addr}{cap:Nat}{L:Bs}{k:Nat}{b:Bool}{c:Array Value}(h:RK w d ob ao cap L k b)(hb:Blk w g t c)(h1:t≠205)(h2:t≠4)(hc:∀(j:Nat) (x:Int),c[j]?≠some (Value.int .u8 x))(hg:w.grownBy w' (some g)):RK w' d ob ao cap L k b:=by
 have n1:g≠d:=fun e=>by
  have h3:=h.rf
  subst e
  unfold Blk at hb h3
  rw [hb] at h3
  simp at h3
  exact h1 h3.2
 have n2:g≠ob:=fun e=>by
  have h3:=h.ok
  subst e
  unfold Blk at hb h3
  rw [hb] at h3
  simp at h3
  exact h2 h3.2
 exact ⟨seg_blk h.seg hb hc hg,h.rf.grown hg (by simp;exact n1),h.ok.grown hg (by simp;exact n2),h.le,h.zz⟩
theorem fr_grown {a b c:World}{d ob:Nat}(h:a.grownBy b none)(hf:Fr b c (RF d ob))(h1:a.heap.size<=d)(h2:a.heap.size<=ob):a.grownBy c none :=
 ⟨hf.os.trans h.os,hf.tape.trans h.tape,hf.output.trans h.output,Nat.le_trans h.size hf.size,fun i hi _=>(hf.block i (Nat.lt_of_lt_of_le hi h.size) (fun e=>by rcases e with rfl | rfl <;> omega)).trans (h.block i hi (by simp))⟩
theorem fr_two {w w':World}{d ob:Nat}(h:Fr w w' (RF d ob))(hob:ob<w.heap.size):∃x:World,w.grownBy x (some d)/\x.grownBy w' (some ob):=by
 refine ⟨{ w' with heap:=w'.heap.setIfInBounds ob w.heap[ob] },⟨h.os,h.tape,h.output,by simpa using h.size,fun i hi hr=>?_⟩,⟨rfl,rfl,rfl,by simp,fun i hi hr=>?_⟩⟩
 ·by_cases e:ob=i
  ·subst e
   have h1:ob<w'.heap.size:=Nat.lt_of_lt_of_le hob h.size
   simp [h1,hob]
  ·simp only [Array.getElem?_setIfInBounds,if_neg e]
   exact h.block i hi (fun e2=>by
    rcases e2 with rfl | rfl
    ·exact hr rfl
    ·exact e rfl)
 ·have e:ob≠i:=fun e=>hr (by rw [e])
  simp only [Array.getElem?_setIfInBounds,if_neg e]
theorem opsOwn_fr {w w':World}{d ob:Nat}{ao:Option Addr}{cap:Nat}{L:Bs}{k B:Nat}{b:Bool}{v:Value}{l:List POp}(h:OpsOwn w B v l)(hr:RK w d ob ao cap L k b)(hf:Fr w w' (RF d ob)):OpsOwn w' B v l:=by
 obtain ⟨x,g1,g2⟩:=fr_two hf hr.ok.lt
 exact (h.set hr.rf (by decide) (by decide) g1).set (hr.ok.grown g1 (by simp;exact hr.ne)) (by decide) (by decide) g2
end Go.Proofs.YtanoabliahcbeaaGreat.Calls
