import Derived.Test.YtncbdhdfemidlaaGreatCdxAll
import Derived.Test.YtncbdhdfemidlaaGreatCnAll
import Derived.Deep.DeepCutAuto
set_option maxHeartbeats 16000000
set_option maxRecDepth 100000
namespace Go.Proofs.YtncbdhdfemidlaaGreat.Calls
open Go.RowKit Disk
open Names (Str)
structure RK (w:World)(d ob:Nat)(ao:Option Addr)(cap:Nat)(L:Bs)(k:Nat)(b:Bool):Prop where
 seg:Seg w (.slice ao L.length cap) L
 rf:Blk w d 79 #[.slice ao L.length cap,.int .i64 k]
 ok:Blk w ob 4 #[.bool b]
 le:k<=L.length
 zz:L.length<=140737488355328
def RF (d ob:Nat):Nat->Prop:=fun i=>i=d\/i=ob
theorem RK.ne {w:World}{d ob:Nat}{ao:Option Addr}{cap:Nat}{L:Bs}{k:Nat}{b:Bool}(h:RK w d ob ao cap L k b):d≠ob:=by
 intro e
 have h1:=h.rf
 have h2:=h.ok
 rw [e] at h1
 unfold Blk at h1 h2
 rw [h1] at h2
 simp at h2
theorem RK.grown {w w':World}{d ob:Nat}{ao:Option Addr}{cap:Nat}{L:Bs}{k:Nat}{b:Bool}(h:RK w d ob ao cap L k b)(hg:w.grownBy w' none):RK w' d ob ao cap L k b :=
 ⟨h.seg.grown hg,h.rf.grown hg (by simp),h.ok.grown hg (by simp),h.le,h.zz⟩
theorem seg_blk {w w':World}{v:Value}{L:Bs}{g t:Nat}{c:Array Value}(h:Seg w v L)(hb:Blk w g t c)(hc:∀(j:Nat) (x:Int),c[j]?≠some (Value.int .u8 x))(hg:w.grownBy w' (some g)):Seg w' v L:=by
 refine h.of_cells fun b j x hx=>?_
 refine hg.cell hx ?_
 intro e
 have:b=g:=by simpa using e
 subst this
 rw [hb.cell j] at hx
 exact hc j x hx
theorem RK.at {w w':World}{d ob:Nat}{ao:Option Addr}{cap:Nat}{L:Bs}{k k':Nat}{b:Bool}(h:RK w d ob ao cap L k b)(hk:k'<=L.length)(hb:Blk w' d 79 #[.slice ao L.length cap,.int .i64 k'])(hg:w.grownBy w' (some d)):RK w' d ob ao cap L k' b:=by
 refine ⟨seg_blk h.seg h.rf (fun j x=>?_) hg,hb,h.ok.grown hg (by simp;exact h.ne),hk,h.zz⟩
 match j with
 | 0=>simp
 | 1=>simp
 | j+2=>simp
theorem RK.say {w:World}{d ob:Nat}{ao:Option Addr}{cap:Nat}{L:Bs}{k:Nat}{b:Bool}(h:RK w d ob ao cap L k b)(b':Bool):RK (w.setCell ⟨ob,0,none⟩ (.bool b')) d ob ao cap L k b':=by
 refine ⟨seg_blk h.seg h.ok (fun j x=>?_) (grown_setCell w ob 0 _),h.rf.grown (grown_setCell w ob 0 _) (by simp;exact h.ne.symm),h.ok.store 0 _,h.le,h.zz⟩
 match j with
 | 0=>simp
 | j+1=>simp
theorem fr_d {w w':World}{d ob:Nat}(h:w.grownBy w' (some d)):Fr w w' (RF d ob):=Fr.of h (fun k hk=>by simp at hk;exact Or.inl hk.symm)
theorem fr_ob {w:World}{d ob:Nat}(v:Value):Fr w (w.setCell ⟨ob,0,none⟩ v) (RF d ob):=Fr.of (grown_setCell w ob 0 v) (fun k hk=>by simp at hk;exact Or.inr hk.symm)
theorem fr_n {w w':World}{d ob:Nat}(h:w.grownBy w' none):Fr w w' (RF d ob):=Fr.of h (fun k hk=>by cases hk)
theorem fr_t {a b c:World}{d ob:Nat}(h:Fr a b (RF d ob))(k:Fr b c (RF d ob)):Fr a c (RF d ob):=h.trans k (fun _ h=>Or.inl h)
theorem own_fr {w w':World}{d ob:Nat}{ao:Option Addr}{cap:Nat}{L M:Bs}{k B:Nat}{b:Bool}{v:Value}(h:Own w B v M)(hr:RK w d ob ao cap L k b)(hf:Fr w w' (RF d ob)):Own w' B v M:=by
 refine Own.same h fun q hq=>hf.block q (h.lt q hq).2 fun e=>?_
 rcases e with rfl | rfl
 ·exact h.other hr.rf (by decide) hq
 ·exact h.other hr.ok (by decide) hq
theorem blk_fr {w w':World}{d ob g t:Nat}{ao:Option Addr}{cap:Nat}{L:Bs}{k:Nat}{b:Bool}{c:Array Value}(h:Blk w g t c)(hr:RK w d ob ao cap L k b)(hf:Fr w w' (RF d ob))(h1:t≠79)(h2:t≠4):Blk w' g t c:=by
 refine h.same (hf.block g h.lt fun e=>?_)
 rcases e with rfl | rfl
 ·have h3:=hr.rf
  unfold Blk at h h3
  rw [h] at h3
  simp at h3
  exact h1 h3.2
 ·have h3:=hr.ok
  unfold Blk at h h3
  rw [h] at h3
  simp at h3
  exact h2 h3.2
theorem and30 (x:Nat)(h:x<2 ^ 64):bits .and .u64 (x:Int) 1073741823=((x % 1073741824:Nat):Int):=by
 have h1:=bits_and_u64_nat x 1073741823 (by omega) (by omega)
 rw [show (1073741823:Nat)=2 ^ 30-1 by decide,Nat.and_two_pow_sub_one_eq_mod] at h1
 exact h1
def DkPost (d ob:Nat)(ao:Option Addr)(cap:Nat)(L:Bs)(k':Nat)(b':Bool)(w w':World):Prop:=RK w' d ob ao cap L k' b'/\Fr w w' (RF d ob)
theorem rdNum_form {m:Nat}{N M:Bs}(hm:m<2 ^ 64)(h:N=Wire.numForm m ++ M):Wire.rdNum N=(m,0,M):=by
 rw [h,Wire.rdNum_some (Wire.scan_num m hm M),List.drop_left]
theorem number49 (d ob:Nat)(ao:Option Addr)(cap:Nat)(L:Bs)(k:Nat)(b:Bool)(w:World)(h:RK w d ob ao cap L k b) :
  Calls Tryz.prog 66 #[.pointer (some ⟨d,0,none⟩),.pointer (some ⟨ob,0,none⟩)] w fun e w'=>∃n k' b',e=.returned (.int .i64 ((n:Nat):Int))/\n<1073741824/\DkPost d ob ao cap L k' b' w w'/\(∀m M,b=true->m<1073741824->L.drop k=Wire.numForm m ++ M->n=m/\L.drop k'=M/\b'=true):=by
 have HR:Hid (RK w d ob ao cap L k b):=h
 clear h
 go_enter Tryz.func66,Tryz.ntmps66
 go_wp2_with (go_at_call 65;refine (Wire.number39 d ao cap k L _ HR.out.rf HR.out.seg HR.out.le).mono ?_)
 rintro e w1 ⟨rfl,k',hk',hM,hrf,hg⟩
 have H1:Hid (RK w1 d ob ao cap L k' b/\Fr w w1 (RF d ob)):=⟨HR.out.at hk' hrf hg,fr_d hg⟩
 have hx64:=Wire.rdNum_lt (L.drop k)
 have HS:Hid (∀m M,m<1073741824->L.drop k=Wire.numForm m ++ M->(Wire.rdNum (L.drop k)).1=m/\L.drop k'=M/\(Wire.rdNum (L.drop k)).2.1=0):=by
  intro m M hm e
  have:=rdNum_form (by omega) e
  rw [this] at hM ⊢
  exact ⟨rfl,hM,rfl⟩
 obtain ⟨x,hx⟩:∃x,(Wire.rdNum (L.drop k)).1=x:=⟨_,rfl⟩
 obtain ⟨er,her⟩:∃x,(Wire.rdNum (L.drop k)).2.1=x:=⟨_,rfl⟩
 rw [hx] at hx64 HS ⊢
 rw [her] at HS ⊢
 clear hx her hM hrf hg hk'
 have c0:=H1.out.1.ok.cell 0
 have c1:=H1.out.1.ok.free 0
 have w30:Hid (wrap64 (bits .and .u64 (x:Int) 1073741823)=((x % 1073741824:Nat):Int)):=by
  unfold Hid
  rw [and30 x hx64]
  unfold wrap64
  omega
 have b30:x % 1073741824<1073741824:=Nat.mod_lt _ (by decide)
 go_wp2_with fail
 ·go_ret
  refine ⟨x % 1073741824,k',decide ((x:Int)<1073741824),?_,b30,⟨H1.out.1.say _,fr_t H1.out.2 (fr_ob _)⟩,fun m M _ hm e=>?_⟩
  ·rw [w30.out];rfl
  ·obtain ⟨h1,h2,_⟩:=HS.out m M hm e
   subst h1
   exact ⟨Nat.mod_eq_of_lt hm,h2,decide_eq_true (by omega)⟩
 ·go_ret
  refine ⟨x % 1073741824,k',false,?_,b30,⟨H1.out.1.say _,fr_t H1.out.2 (fr_ob _)⟩,fun m M _ hm e=>?_⟩
  ·rw [w30.out];rfl
  ·obtain ⟨_,_,h3⟩:=HS.out m M hm e
   simp_all
 ·go_ret
  refine ⟨x % 1073741824,k',false,?_,b30,⟨H1.out.1.say _,fr_t H1.out.2 (fr_ob _)⟩,fun m M hb _ _=>?_⟩
  ·rw [w30.out];rfl
  ·simp_all
theorem bytes42_any (d:Nat)(ao:Option Addr)(cap:Nat)(L:Bs)(k:Nat)(w:World)(hr:Blk w d 79 #[.slice ao L.length cap,.int .i64 k])(hs:Seg w (.slice ao L.length cap) L)(hk:k<=L.length)(hz:L.length<=140737488355328) :
  Calls Tryz.prog 99 #[.pointer (some ⟨d,0,none⟩),.int .i64 4096] w fun e w'=>∃v out er k',e=.returned (.tuple #[v,.int .i64 er])/\Own w' w.heap.size v out/\k'<=L.length/\Blk w' d 79 #[.slice ao L.length cap,.int .i64 k']/\w.grownBy w' (some d)/\(∀p M,p.length<=4096->L.drop k=bytesForm p ++ M->out=p/\L.drop k'=M/\er=0):=by
 have hform:∀p M,p.length<=4096->L.drop k=bytesForm p ++ M->Wire.scan 0 0 (L.drop k)=some (p.length,(Wire.numForm p.length).length)/\L.drop (k+(Wire.numForm p.length).length)=p ++ M/\p.length<=L.length-(k+(Wire.numForm p.length).length):=by
  intro p M hp e
  unfold bytesForm at e
  rw [List.append_assoc] at e
  refine ⟨by rw [e];exact Wire.scan_num _ (by omega) _,by rw [<-List.drop_drop,e,List.drop_left],?_⟩
  have:=congrArg List.length e
  simp at this
  omega
 cases hn:Wire.scan 0 0 (L.drop k) with
 | none =>
  refine (Wire.bytes42_none d ao cap k L 4096 w hr hs hk hn).mono ?_
  rintro e w' ⟨rfl,h1,h2⟩
  exact ⟨_,[],4,k,rfl,Own.nil _ _,hk,h1,h2,fun p M hp e=>by rw [(hform p M hp e).1] at hn;cases hn⟩
 | some y =>
  obtain ⟨n,m⟩:=y
  by_cases hl:(4096:Int)<(n:Int)
  ·refine (Wire.bytes42_long d ao cap k L 4096 w n m hr hs hk (by omega) (by omega) hn hl).mono ?_
   rintro e w' ⟨rfl,h1,h2⟩
   refine ⟨_,[],3,k,rfl,Own.nil _ _,hk,h1,h2,fun p M hp e=>?_⟩
   have:=(hform p M hp e).1
   rw [hn] at this
   simp at this
   omega
  ·by_cases hf:L.length-(k+m)<n
   ·refine (Wire.bytes42_few d ao cap k L 4096 w n m hr hs hk (by omega) (by omega) hn hl hf).mono ?_
    rintro e w' ⟨rfl,h1,h2⟩
    refine ⟨_,[],4,k,rfl,Own.nil _ _,hk,h1,h2,fun p M hp e=>?_⟩
    obtain ⟨g1,_,g3⟩:=hform p M hp e
    rw [hn] at g1
    simp at g1
    obtain ⟨rfl,rfl⟩:=g1
    omega
   ·refine (Wire.bytes42_ok d ao cap k L 4096 w n m hr hs hk (by omega) (by omega) hn hl hf (by omega)).mono ?_
    rintro e w' ⟨v,rfl,ho,h1,h2⟩
    have hb:=Wire.scan_bound (L.drop k) 0 0 (by omega) (by simp) n m hn
    have hm:m<=(L.drop k).length:=by simp at hb ⊢;omega
    rw [List.length_drop] at hm
    refine ⟨v,_,0,k+m+n,rfl,ho,by omega,h1,h2,fun p M hp e=>?_⟩
    obtain ⟨g1,g2,_⟩:=hform p M hp e
    rw [hn] at g1
    simp at g1
    obtain ⟨rfl,rfl⟩:=g1
    rw [g2]
    refine ⟨List.take_left,?_,rfl⟩
    rw [<-List.drop_drop,g2,List.drop_left]
theorem piece63 (d ob:Nat)(ao:Option Addr)(cap:Nat)(L:Bs)(k:Nat)(b:Bool)(w:World)(h:RK w d ob ao cap L k b) :
  Calls Tryz.prog 74 #[.pointer (some ⟨d,0,none⟩),.pointer (some ⟨ob,0,none⟩)] w fun e w'=>∃v out k' b',e=.returned v/\Own w' w.heap.size v out/\DkPost d ob ao cap L k' b' w w'/\(∀p M,b=true->p.length<=4096->L.drop k=bytesForm p ++ M->out=p/\L.drop k'=M/\b'=true):=by
 have HR:Hid (RK w d ob ao cap L k b):=h
 clear h
 go_enter Tryz.func74,Tryz.ntmps74
 go_wp2_with (go_at_call 99;refine (bytes42_any d ao cap L k _ HR.out.rf HR.out.seg HR.out.le HR.out.zz).mono ?_)
 rintro e w1 ⟨v,out,er,k',rfl,ho,hk',hrf,hg,hS⟩
 have H1:Hid (RK w1 d ob ao cap L k' b/\Fr w w1 (RF d ob)/\Own w1 w.heap.size v out/\w.grownBy w1 (some d)):=⟨HR.out.at hk' hrf hg,fr_d hg,ho,hg⟩
 have HS:Hid (∀p M,p.length<=4096->L.drop k=bytesForm p ++ M->out=p/\L.drop k'=M/\er=0):=hS
 clear hk' hrf hg ho hS
 have c0:=H1.out.1.ok.cell 0
 have c1:=H1.out.1.ok.free 0
 go_wp2_with fail
 ·go_ret
  refine ⟨v,out,k',er==0,rfl,own_fr H1.out.2.2.1 H1.out.1 (fr_ob _),⟨H1.out.1.say _,fr_t H1.out.2.1 (fr_ob _)⟩,fun p M _ hp e=>?_⟩
  obtain ⟨h1,h2,h3⟩:=HS.out p M hp e
  exact ⟨h1,h2,by rw [h3];rfl⟩
 ·go_ret
  refine ⟨v,out,k',false,rfl,own_fr H1.out.2.2.1 H1.out.1 (fr_ob _),⟨H1.out.1.say _,fr_t H1.out.2.1 (fr_ob _)⟩,fun p M hb _ _=>?_⟩
  simp_all
theorem rdFlag_form {is:Bool}{N M:Bs}(h:N=flagForm is ++ M):Wire.rdFlag N=(is,0,M):=by
 subst h
 cases is <;> simp [flagForm,Wire.rdFlag]
theorem flag62 (d ob:Nat)(ao:Option Addr)(cap:Nat)(L:Bs)(k:Nat)(b:Bool)(w:World)(h:RK w d ob ao cap L k b) :
  Calls Tryz.prog 73 #[.pointer (some ⟨d,0,none⟩),.pointer (some ⟨ob,0,none⟩)] w fun e w'=>∃is k' b',e=.returned (.bool is)/\DkPost d ob ao cap L k' b' w w'/\(∀p M,b=true->L.drop k=flagForm p ++ M->is=p/\L.drop k'=M/\b'=true):=by
 have HR:Hid (RK w d ob ao cap L k b):=h
 clear h
 go_enter Tryz.func73,Tryz.ntmps73
 go_wp2_with (go_at_call 98;refine (Wire.flag41 d ao cap k L _ HR.out.rf HR.out.seg HR.out.le).mono ?_)
 rintro e w1 ⟨rfl,k',hk',hM,hrf,hg⟩
 have H1:Hid (RK w1 d ob ao cap L k' b/\Fr w w1 (RF d ob)):=⟨HR.out.at hk' hrf hg,fr_d hg⟩
 have HS:Hid (∀p M,L.drop k=flagForm p ++ M->(Wire.rdFlag (L.drop k)).1=p/\L.drop k'=M/\(Wire.rdFlag (L.drop k)).2.1=0):=by
  intro p M e
  have:=rdFlag_form e
  rw [this] at hM ⊢
  exact ⟨rfl,hM,rfl⟩
 obtain ⟨x,hx⟩:∃x,(Wire.rdFlag (L.drop k)).1=x:=⟨_,rfl⟩
 obtain ⟨er,her⟩:∃x,(Wire.rdFlag (L.drop k)).2.1=x:=⟨_,rfl⟩
 rw [hx] at HS ⊢
 rw [her] at HS ⊢
 clear hx her hM hrf hg hk'
 have c0:=H1.out.1.ok.cell 0
 have c1:=H1.out.1.ok.free 0
 go_wp2_with fail
 ·go_ret
  refine ⟨x,k',er==0,rfl,⟨H1.out.1.say _,fr_t H1.out.2 (fr_ob _)⟩,fun p M _ e=>?_⟩
  obtain ⟨h1,h2,h3⟩:=HS.out p M e
  exact ⟨h1,h2,by rw [h3];rfl⟩
 ·go_ret
  refine ⟨x,k',false,rfl,⟨H1.out.1.say _,fr_t H1.out.2 (fr_ob _)⟩,fun p M hb _=>?_⟩
  simp_all
theorem RK.other {w w':World}{d ob g t:Nat}{ao:Option Addr}{cap:Nat}{L:Bs}{k:Nat}{b:Bool}{c:Array Value}(h:RK w d ob ao cap L k b)(hb:Blk w g t c)(h1:t≠79)(h2:t≠4)(hc:∀(j:Nat) (x:Int),c[j]?≠some (Value.int .u8 x))(hg:w.grownBy w' (some g)):RK w' d ob ao cap L k b:=by
 have n1:g≠d:=fun e=>by
  have h3:=h.rf
  subst e
  unfold Blk at hb h3
  rw [hb] at h3
  simp at h3
  exact h1 h3.2
 have n2:g≠ob:=fun e=>by
  have h3:=h.ok
  subst e
  unfold Blk at hb h3
  rw [hb] at h3
  simp at h3
  exact h2 h3.2
 exact ⟨seg_blk h.seg hb hc hg,h.rf.grown hg (by simp;exact n1),h.ok.grown hg (by simp;exact n2),h.le,h.zz⟩
theorem fr_new {a b c:World}{d ob g:Nat}(h:Fr a b (RF d ob))(hg:b.grownBy c (some g))(hn:a.heap.size<=g):Fr a c (RF d ob):=h.trans (Fr.of (F:=fun i=>i=g) hg (fun k hk=>by simp at hk;exact hk.symm)) (fun i hi=>Or.inr (by rw [hi];exact hn))
theorem op_cells (a0:Int)(a1:ByteArray)(o2 o3 o5 o6:Option Addr)(n2 n3 n5 n6 c2 c3 c5 c6:Nat)(a4:Bool)(a7:Int):∀(j:Nat) (x:Int),(#[Value.int .i64 a0,.string a1,.slice o2 n2 c2,.slice o3 n3 c3,.bool a4,.slice o5 n5 c5,.slice o6 n6 c6,.int .i64 a7]:Array Value)[j]?≠some (Value.int .u8 x)
 | 0,x=>by simp
 | 1,x=>by simp
 | 2,x=>by simp
 | 3,x=>by simp
 | 4,x=>by simp
 | 5,x=>by simp
 | 6,x=>by simp
 | 7,x=>by simp
 | j+8,x=>by simp
def OpPost (d ob:Nat)(ao:Option Addr)(cap:Nat)(L:Bs)(k:Nat)(b:Bool)(w:World)(e:Ending)(w':World):Prop:=∃kv vv ol t o k' b',e=.returned (opV kv vv ol t o)/\OpOwn w' w.heap.size kv vv ol t o/\DkPost d ob ao cap L k' b' w w'/\(∀p M,b=true->mayOp p=true->L.drop k=opForm p ++ M->o=p/\L.drop k'=M/\b'=true)
theorem op50 (d ob:Nat)(ao:Option Addr)(cap:Nat)(L:Bs)(k:Nat)(b:Bool)(w:World)(h:RK w d ob ao cap L k b) :
  Calls Tryz.prog 67 #[.pointer (some ⟨d,0,none⟩),.pointer (some ⟨ob,0,none⟩)] w (OpPost d ob ao cap L k b w):=by
 have HR:Hid (RK w d ob ao cap L k b):=h
 clear h
 go_enter Tryz.func67,Tryz.ntmps67
 go_upto_region 1 with fail
 have S0:Hid (RK (w.alloc (.cells #[.int .i64 0,.string ⟨#[]⟩,.slice none 0 0,.slice none 0 0,.bool false,.slice none 0 0,.slice none 0 0,.int .i64 0] 116)) d ob ao cap L k b/\Blk (w.alloc (.cells #[.int .i64 0,.string ⟨#[]⟩,.slice none 0 0,.slice none 0 0,.bool false,.slice none 0 0,.slice none 0 0,.int .i64 0] 116)) w.heap.size 116 #[.int .i64 0,.string ⟨#[]⟩,.slice none 0 0,.slice none 0 0,.bool false,.slice none 0 0,.slice none 0 0,.int .i64 0]/\Fr w (w.alloc (.cells #[.int .i64 0,.string ⟨#[]⟩,.slice none 0 0,.slice none 0 0,.bool false,.slice none 0 0,.slice none 0 0,.int .i64 0] 116)) (RF d ob)):=⟨HR.out.grown (World.grownBy_alloc _ _ none),heap_alloc_new w _,fr_n (World.grownBy_alloc _ _ none)⟩
 generalize (w.alloc (.cells #[.int .i64 0,.string ⟨#[]⟩,.slice none 0 0,.slice none 0 0,.bool false,.slice none 0 0,.slice none 0 0,.int .i64 0] 116))=W0 at S0 ⊢
 go_wp2_with (go_at_call 66;refine (number49 d ob ao cap L k b _ S0.out.1).mono ?_)
 rintro e w1 ⟨n,k1,b1,rfl,hn,⟨hrk,hfr⟩,hS⟩
 have S1:Hid (RK w1 d ob ao cap L k1 b1/\Blk w1 w.heap.size 116 #[.int .i64 0,.string ⟨#[]⟩,.slice none 0 0,.slice none 0 0,.bool false,.slice none 0 0,.slice none 0 0,.int .i64 0]/\Fr w w1 (RF d ob)):=⟨hrk,blk_fr S0.out.2.1 S0.out.1 hfr (by decide) (by decide),fr_t S0.out.2.2 hfr⟩
 have HS1:Hid (∀m M,b=true->m<1073741824->L.drop k=Wire.numForm m ++ M->n=m/\L.drop k1=M/\b1=true):=hS
 clear hrk hfr hS S0
 go_upto_region 2 with fail
 have S2:Hid (RK (w1.alloc (.cells #[.int .i64 (n:Int),.string ⟨#[]⟩,.slice none 0 0,.slice none 0 0,.bool false,.slice none 0 0,.slice none 0 0,.int .i64 0] 116)) d ob ao cap L k1 b1/\Blk (w1.alloc (.cells #[.int .i64 (n:Int),.string ⟨#[]⟩,.slice none 0 0,.slice none 0 0,.bool false,.slice none 0 0,.slice none 0 0,.int .i64 0] 116)) w.heap.size 116 #[.int .i64 0,.string ⟨#[]⟩,.slice none 0 0,.slice none 0 0,.bool false,.slice none 0 0,.slice none 0 0,.int .i64 0]/\Fr w (w1.alloc (.cells #[.int .i64 (n:Int),.string ⟨#[]⟩,.slice none 0 0,.slice none 0 0,.bool false,.slice none 0 0,.slice none 0 0,.int .i64 0] 116)) (RF d ob)/\Blk (w1.alloc (.cells #[.int .i64 (n:Int),.string ⟨#[]⟩,.slice none 0 0,.slice none 0 0,.bool false,.slice none 0 0,.slice none 0 0,.int .i64 0] 116)) w1.heap.size 116 #[.int .i64 (n:Int),.string ⟨#[]⟩,.slice none 0 0,.slice none 0 0,.bool false,.slice none 0 0,.slice none 0 0,.int .i64 0]/\True):=⟨S1.out.1.grown (World.grownBy_alloc _ _ none),S1.out.2.1.grown (World.grownBy_alloc _ _ none) (by simp),fr_t S1.out.2.2 (fr_n (World.grownBy_alloc _ _ none)),heap_alloc_new w1 _,trivial⟩
 obtain ⟨r5,hr5⟩:∃r,w1.heap.size=r:=⟨_,rfl⟩
 have HB:Hid (w.heap.size<=r5/\w.heap.size≠r5):=by
  have h1:=S1.out.2.2.size
  have h2:=S1.out.2.1.lt
  rw [hr5] at h1 h2
  exact ⟨h1,by omega⟩
 rw [hr5] at S2 ⊢
 clear hr5 S1
 generalize (w1.alloc (.cells #[.int .i64 (n:Int),.string ⟨#[]⟩,.slice none 0 0,.slice none 0 0,.bool false,.slice none 0 0,.slice none 0 0,.int .i64 0] 116))=w2 at S2 ⊢
 have x0:=S2.out.2.2.2.1.cell 1
 go_wp2_with (go_at_call 74;refine (piece63 d ob ao cap L k1 b1 _ S2.out.1).mono ?_)
 rintro e w2a ⟨v2,o2,k2,b2,rfl,ho,⟨hrk,hfr⟩,hS⟩
 obtain ⟨f2,q2,e2⟩:=ho.seg.shape
 obtain ⟨l2,hl2⟩:∃l,o2.length=l:=⟨_,rfl⟩
 rw [hl2] at e2
 subst e2
 have HL2:Hid (o2.length=l2):=hl2
 have LT:Hid (o2.length<=9223372036854775807):=ho.seg.len
 have U2:Hid (RK w2a d ob ao cap L k2 b2/\Blk w2a w.heap.size 116 #[.int .i64 0,.string ⟨#[]⟩,.slice none 0 0,.slice none 0 0,.bool false,.slice none 0 0,.slice none 0 0,.int .i64 0]/\Fr w w2a (RF d ob)/\Blk w2a r5 116 #[.int .i64 (n:Int),.string ⟨#[]⟩,.slice none 0 0,.slice none 0 0,.bool false,.slice none 0 0,.slice none 0 0,.int .i64 0]/\Seg w2a (.slice f2 l2 q2) o2/\True):=⟨hrk,blk_fr S2.out.2.1 S2.out.1 hfr (by decide) (by decide),fr_t S2.out.2.2.1 hfr,blk_fr S2.out.2.2.2.1 S2.out.1 hfr (by decide) (by decide),ho.seg,trivial⟩
 have HS2:Hid (∀p M,b1=true->p.length<=4096->L.drop k1=bytesForm p ++ M->o2=p/\L.drop k2=M/\b2=true):=hS
 clear hrk hfr hS ho hl2 S2 x0
 have x0:=U2.out.2.2.2.1.cell 1
 have x1:=U2.out.2.2.2.1.free 1
 have x2:=seg_str U2.out.2.2.2.2.1
 go_upto_region 3 with fail
 have V2:Hid (RK (w2a.setCell ⟨r5,1,none⟩ (.string ⟨o2.toArray⟩)) d ob ao cap L k2 b2/\Blk (w2a.setCell ⟨r5,1,none⟩ (.string ⟨o2.toArray⟩)) w.heap.size 116 #[.int .i64 0,.string ⟨#[]⟩,.slice none 0 0,.slice none 0 0,.bool false,.slice none 0 0,.slice none 0 0,.int .i64 0]/\Fr w (w2a.setCell ⟨r5,1,none⟩ (.string ⟨o2.toArray⟩)) (RF d ob)/\Blk (w2a.setCell ⟨r5,1,none⟩ (.string ⟨o2.toArray⟩)) r5 116 #[.int .i64 (n:Int),.string ⟨o2.toArray⟩,.slice none 0 0,.slice none 0 0,.bool false,.slice none 0 0,.slice none 0 0,.int .i64 0]/\True):=by
  have hg:=grown_setCell w2a r5 1 (.string ⟨o2.toArray⟩)
  exact ⟨U2.out.1.other U2.out.2.2.2.1 (by decide) (by decide) (op_cells _ _ _ _ _ _ _ _ _ _ _ _ _ _ _ _) hg,U2.out.2.1.grown hg (by simp;exact fun e=>HB.out.2 e.symm),fr_new U2.out.2.2.1 hg HB.out.1,U2.out.2.2.2.1.store 1 _,trivial⟩
 clear U2 x0 x1 x2
 generalize (w2a.setCell ⟨r5,1,none⟩ (.string ⟨o2.toArray⟩))=w2b at V2 ⊢
 have x0:=V2.out.2.2.2.1.cell 2
 go_wp2_with (go_at_call 74;refine (piece63 d ob ao cap L k2 b2 _ V2.out.1).mono ?_)
 rintro e w3a ⟨v3,o3,k3,b3,rfl,ho,⟨hrk,hfr⟩,hS⟩
 obtain ⟨f3,q3,e3⟩:=ho.seg.shape
 obtain ⟨l3,hl3⟩:∃l,o3.length=l:=⟨_,rfl⟩
 rw [hl3] at e3
 subst e3
 have HL3:Hid (o3.length=l3):=hl3
 have U3:Hid (RK w3a d ob ao cap L k3 b3/\Blk w3a w.heap.size 116 #[.int .i64 0,.string ⟨#[]⟩,.slice none 0 0,.slice none 0 0,.bool false,.slice none 0 0,.slice none 0 0,.int .i64 0]/\Fr w w3a (RF d ob)/\Blk w3a r5 116 #[.int .i64 (n:Int),.string ⟨o2.toArray⟩,.slice none 0 0,.slice none 0 0,.bool false,.slice none 0 0,.slice none 0 0,.int .i64 0]/\Own w3a w.heap.size (.slice f3 l3 q3) o3/\True):=⟨hrk,blk_fr V2.out.2.1 V2.out.1 hfr (by decide) (by decide),fr_t V2.out.2.2.1 hfr,blk_fr V2.out.2.2.2.1 V2.out.1 hfr (by decide) (by decide),ho.mono V2.out.2.2.1.size,trivial⟩
 have HS3:Hid (∀p M,b2=true->p.length<=4096->L.drop k2=bytesForm p ++ M->o3=p/\L.drop k3=M/\b3=true):=hS
 clear hrk hfr hS ho hl3 V2 x0
 have x0:=U3.out.2.2.2.1.cell 2
 have x1:=U3.out.2.2.2.1.free 2
 go_upto_region 4 with fail
 have V3:Hid (RK (w3a.setCell ⟨r5,2,none⟩ (.slice f3 l3 q3)) d ob ao cap L k3 b3/\Blk (w3a.setCell ⟨r5,2,none⟩ (.slice f3 l3 q3)) w.heap.size 116 #[.int .i64 0,.string ⟨#[]⟩,.slice none 0 0,.slice none 0 0,.bool false,.slice none 0 0,.slice none 0 0,.int .i64 0]/\Fr w (w3a.setCell ⟨r5,2,none⟩ (.slice f3 l3 q3)) (RF d ob)/\Blk (w3a.setCell ⟨r5,2,none⟩ (.slice f3 l3 q3)) r5 116 #[.int .i64 (n:Int),.string ⟨o2.toArray⟩,.slice f3 l3 q3,.slice none 0 0,.bool false,.slice none 0 0,.slice none 0 0,.int .i64 0]/\Own (w3a.setCell ⟨r5,2,none⟩ (.slice f3 l3 q3)) w.heap.size (.slice f3 l3 q3) o3/\True):=by
  have hg:=grown_setCell w3a r5 2 (.slice f3 l3 q3)
  exact ⟨U3.out.1.other U3.out.2.2.2.1 (by decide) (by decide) (op_cells _ _ _ _ _ _ _ _ _ _ _ _ _ _ _ _) hg,U3.out.2.1.grown hg (by simp;exact fun e=>HB.out.2 e.symm),fr_new U3.out.2.2.1 hg HB.out.1,U3.out.2.2.2.1.store 2 _,own_set U3.out.2.2.2.2.1 U3.out.2.2.2.1 (by decide) hg,trivial⟩
 clear U3 x0 x1
 generalize (w3a.setCell ⟨r5,2,none⟩ (.slice f3 l3 q3))=w3b at V3 ⊢
 have HH:Hid (∀p M,b=true->mayOp p=true->L.drop k=opForm p ++ M->(n:Int)=p.kind/\o2=p.table/\o3=p.key/\L.drop k3=tailForm p ++ M/\b3=true/\May p):=by
  intro p M hb1 hp e
  have hm:=may_of hp
  have hk:=hm.kind
  unfold opForm frontForm at e
  simp only [List.append_assoc] at e
  obtain ⟨h1,h2,h3⟩:=HS1.out p.kind.toNat _ hb1 (by omega) e
  obtain ⟨h4,h5,h6⟩:=HS2.out p.table _ h3 (by have:=tab_len hm.tab;omega) h2
  obtain ⟨h7,h8,h9⟩:=HS3.out p.key _ h6 (by have:=hm.key;omega) h5
  exact ⟨by omega,h4,h7,h8,h9,hm⟩
 clear HS1 HS2 HS3
 by_cases k2n:n=2
 ·subst k2n
  clear hn
  have q0:=V3.out.2.2.2.1.cell 0
  have x0:=V3.out.2.2.2.1.cell 3
  go_wp2_with (go_at_call 74;refine (piece63 d ob ao cap L k3 b3 _ V3.out.1).mono ?_)
  rintro e w6a ⟨v6,o6,k6,b6,rfl,ho,⟨hrk,hfr⟩,hS⟩
  obtain ⟨f6,q6,e6⟩:=ho.seg.shape
  obtain ⟨l6,hl6⟩:∃l,o6.length=l:=⟨_,rfl⟩
  rw [hl6] at e6
  subst e6
  have HL6:Hid (o6.length=l6):=hl6
  have U6:Hid (RK w6a d ob ao cap L k6 b6/\Blk w6a w.heap.size 116 #[.int .i64 0,.string ⟨#[]⟩,.slice none 0 0,.slice none 0 0,.bool false,.slice none 0 0,.slice none 0 0,.int .i64 0]/\Fr w w6a (RF d ob)/\Blk w6a r5 116 #[.int .i64 ((2:Nat):Int),.string ⟨o2.toArray⟩,.slice f3 l3 q3,.slice none 0 0,.bool false,.slice none 0 0,.slice none 0 0,.int .i64 0]/\Own w6a w.heap.size (.slice f3 l3 q3) o3/\Own w6a w.heap.size (.slice f6 l6 q6) o6/\True):=⟨hrk,blk_fr V3.out.2.1 V3.out.1 hfr (by decide) (by decide),fr_t V3.out.2.2.1 hfr,blk_fr V3.out.2.2.2.1 V3.out.1 hfr (by decide) (by decide),own_fr V3.out.2.2.2.2.1 V3.out.1 hfr,ho.mono V3.out.2.2.1.size,trivial⟩
  have HS6:Hid (∀p M,b3=true->p.length<=4096->L.drop k3=bytesForm p ++ M->o6=p/\L.drop k6=M/\b6=true):=hS
  clear hrk hfr hS ho hl6 V3 x0
  have x0:=U6.out.2.2.2.1.cell 3
  have x1:=U6.out.2.2.2.1.free 3
  go_upto_region 14 with fail
  have V6:Hid (RK (w6a.setCell ⟨r5,3,none⟩ (.slice f6 l6 q6)) d ob ao cap L k6 b6/\Blk (w6a.setCell ⟨r5,3,none⟩ (.slice f6 l6 q6)) w.heap.size 116 #[.int .i64 0,.string ⟨#[]⟩,.slice none 0 0,.slice none 0 0,.bool false,.slice none 0 0,.slice none 0 0,.int .i64 0]/\Fr w (w6a.setCell ⟨r5,3,none⟩ (.slice f6 l6 q6)) (RF d ob)/\Blk (w6a.setCell ⟨r5,3,none⟩ (.slice f6 l6 q6)) r5 116 #[.int .i64 ((2:Nat):Int),.string ⟨o2.toArray⟩,.slice f3 l3 q3,.slice f6 l6 q6,.bool false,.slice none 0 0,.slice none 0 0,.int .i64 0]/\Own (w6a.setCell ⟨r5,3,none⟩ (.slice f6 l6 q6)) w.heap.size (.slice f3 l3 q3) o3/\Own (w6a.setCell ⟨r5,3,none⟩ (.slice f6 l6 q6)) w.heap.size (.slice f6 l6 q6) o6/\True):=by
   have hg:=grown_setCell w6a r5 3 (.slice f6 l6 q6)
   exact ⟨U6.out.1.other U6.out.2.2.2.1 (by decide) (by decide) (op_cells _ _ _ _ _ _ _ _ _ _ _ _ _ _ _ _) hg,U6.out.2.1.grown hg (by simp;exact fun e=>HB.out.2 e.symm),fr_new U6.out.2.2.1 hg HB.out.1,U6.out.2.2.2.1.store 3 _,own_set U6.out.2.2.2.2.1 U6.out.2.2.2.1 (by decide) hg,own_set U6.out.2.2.2.2.2.1 U6.out.2.2.2.1 (by decide) hg,trivial⟩
  clear U6 x0 x1
  generalize (w6a.setCell ⟨r5,3,none⟩ (.slice f6 l6 q6))=w6b at V6 ⊢
  clear q0
  obtain ⟨y0,y1,y2,y3,y4,y5,y6,y7⟩:=cells8 V6.out.2.2.2.1
  obtain ⟨r0,r1,r2,r3,r4,r5',r6,r7⟩:=cells8 V6.out.2.1
  obtain ⟨z0,z1,z2,z3,z4,z5,z6,z7⟩:=frees8 V6.out.2.1
  go_wp2_with fail
  have hb:=((((((((V6.out.2.1.store 0 (.int .i64 ((2:Nat):Int))).store 1 (.string ⟨o2.toArray⟩)).store 2 (.slice f3 l3 q3)).store 3 (.slice f6 l6 q6)).store 4 (.bool false)).store 5 (.slice none 0 0)).store 6 (.slice none 0 0)).store 7 (.int .i64 0))
  refine bodyPost_ret (v:=_) (results_cell_row rfl _ _ w.heap.size 116 _ (0,0) _ rfl hb Tryz.underlying116 rfl (by kernel_rfl)) rfl ?_
  have hg:=grown8 w6b w.heap.size (.int .i64 ((2:Nat):Int)) (.string ⟨o2.toArray⟩) (.slice f3 l3 q3) (.slice f6 l6 q6) (.bool false) (.slice none 0 0) (.slice none 0 0) (.int .i64 0)
  refine ⟨_,_,_,_,⟨2,o2,o3,o6,false,[],[],0⟩,k6,b6,rfl,⟨.inl (own_set V6.out.2.2.2.2.1 V6.out.2.1 (by decide) hg),.inl (own_set V6.out.2.2.2.2.2.1 V6.out.2.1 (by decide) hg),.inl (Own.nil _ _),.inl (Own.nil _ _),⟨by first | (simp <;> omega) | omega,by first | (simp <;> omega) | omega,by simp,by simp,LT.out⟩⟩,⟨V6.out.1.other V6.out.2.1 (by decide) (by decide) (op_cells _ _ _ _ _ _ _ _ _ _ _ _ _ _ _ _) hg,fr_new V6.out.2.2.1 hg (Nat.le_refl _)⟩,fun p M hb1 hp e=>?_⟩
  obtain ⟨h1,h2,h3,h4,h5,hm⟩:=HH.out p M hb1 hp e
  unfold tailForm at h4
  rw [if_pos (by omega)] at h4
  obtain ⟨h6,h7,h8⟩:=HS6.out p.value M h5 (by have:=hm.value;omega) h4
  refine ⟨?_,h7,h8⟩
  have hn:=hm.named
  rw [named,if_neg (by omega),if_pos (by omega)] at hn
  rw [hn,<-h2,<-h3,<-h6,<-h1]
  rfl
 ·have j2:((n:Int)=2)=False:=eq_false (by omega)
  have j2':((n:Int)==2)=false:=by rw [beq_eq_false_iff_ne];omega
  by_cases k4n:n=4
  ·subst k4n
   clear hn j2 j2'
   have q0:=V3.out.2.2.2.1.cell 0
   have x0:=V3.out.2.2.2.1.cell 4
   go_wp2_with (go_at_call 73;refine (flag62 d ob ao cap L k3 b3 _ V3.out.1).mono ?_)
   rintro e w8a ⟨x8,k8,b8,rfl,⟨hrk,hfr⟩,hS⟩
   have U8:Hid (RK w8a d ob ao cap L k8 b8/\Blk w8a w.heap.size 116 #[.int .i64 0,.string ⟨#[]⟩,.slice none 0 0,.slice none 0 0,.bool false,.slice none 0 0,.slice none 0 0,.int .i64 0]/\Fr w w8a (RF d ob)/\Blk w8a r5 116 #[.int .i64 ((4:Nat):Int),.string ⟨o2.toArray⟩,.slice f3 l3 q3,.slice none 0 0,.bool false,.slice none 0 0,.slice none 0 0,.int .i64 0]/\Own w8a w.heap.size (.slice f3 l3 q3) o3/\True):=⟨hrk,blk_fr V3.out.2.1 V3.out.1 hfr (by decide) (by decide),fr_t V3.out.2.2.1 hfr,blk_fr V3.out.2.2.2.1 V3.out.1 hfr (by decide) (by decide),own_fr V3.out.2.2.2.2.1 V3.out.1 hfr,trivial⟩
   have HS8:Hid (∀p M,b3=true->L.drop k3=flagForm p ++ M->x8=p/\L.drop k8=M/\b8=true):=hS
   clear hrk hfr hS V3 x0
   have x0:=U8.out.2.2.2.1.cell 4
   have x1:=U8.out.2.2.2.1.free 4
   go_upto_region 9 with fail
   have V8:Hid (RK (w8a.setCell ⟨r5,4,none⟩ (.bool x8)) d ob ao cap L k8 b8/\Blk (w8a.setCell ⟨r5,4,none⟩ (.bool x8)) w.heap.size 116 #[.int .i64 0,.string ⟨#[]⟩,.slice none 0 0,.slice none 0 0,.bool false,.slice none 0 0,.slice none 0 0,.int .i64 0]/\Fr w (w8a.setCell ⟨r5,4,none⟩ (.bool x8)) (RF d ob)/\Blk (w8a.setCell ⟨r5,4,none⟩ (.bool x8)) r5 116 #[.int .i64 ((4:Nat):Int),.string ⟨o2.toArray⟩,.slice f3 l3 q3,.slice none 0 0,.bool x8,.slice none 0 0,.slice none 0 0,.int .i64 0]/\Own (w8a.setCell ⟨r5,4,none⟩ (.bool x8)) w.heap.size (.slice f3 l3 q3) o3/\True):=by
    have hg:=grown_setCell w8a r5 4 (.bool x8)
    exact ⟨U8.out.1.other U8.out.2.2.2.1 (by decide) (by decide) (op_cells _ _ _ _ _ _ _ _ _ _ _ _ _ _ _ _) hg,U8.out.2.1.grown hg (by simp;exact fun e=>HB.out.2 e.symm),fr_new U8.out.2.2.1 hg HB.out.1,U8.out.2.2.2.1.store 4 _,own_set U8.out.2.2.2.2.1 U8.out.2.2.2.1 (by decide) hg,trivial⟩
   clear U8 x0 x1
   generalize (w8a.setCell ⟨r5,4,none⟩ (.bool x8))=w8b at V8 ⊢
   clear q0
   have x0:=V8.out.2.2.2.1.cell 5
   go_wp2_with (go_at_call 74;refine (piece63 d ob ao cap L k8 b8 _ V8.out.1).mono ?_)
   rintro e w9a ⟨v9,o9,k9,b9,rfl,ho,⟨hrk,hfr⟩,hS⟩
   obtain ⟨f9,q9,e9⟩:=ho.seg.shape
   obtain ⟨l9,hl9⟩:∃l,o9.length=l:=⟨_,rfl⟩
   rw [hl9] at e9
   subst e9
   have HL9:Hid (o9.length=l9):=hl9
   have U9:Hid (RK w9a d ob ao cap L k9 b9/\Blk w9a w.heap.size 116 #[.int .i64 0,.string ⟨#[]⟩,.slice none 0 0,.slice none 0 0,.bool false,.slice none 0 0,.slice none 0 0,.int .i64 0]/\Fr w w9a (RF d ob)/\Blk w9a r5 116 #[.int .i64 ((4:Nat):Int),.string ⟨o2.toArray⟩,.slice f3 l3 q3,.slice none 0 0,.bool x8,.slice none 0 0,.slice none 0 0,.int .i64 0]/\Own w9a w.heap.size (.slice f3 l3 q3) o3/\Own w9a w.heap.size (.slice f9 l9 q9) o9/\True):=⟨hrk,blk_fr V8.out.2.1 V8.out.1 hfr (by decide) (by decide),fr_t V8.out.2.2.1 hfr,blk_fr V8.out.2.2.2.1 V8.out.1 hfr (by decide) (by decide),own_fr V8.out.2.2.2.2.1 V8.out.1 hfr,ho.mono V8.out.2.2.1.size,trivial⟩
   have HS9:Hid (∀p M,b8=true->p.length<=4096->L.drop k8=bytesForm p ++ M->o9=p/\L.drop k9=M/\b9=true):=hS
   clear hrk hfr hS ho hl9 V8 x0
   have x0:=U9.out.2.2.2.1.cell 5
   have x1:=U9.out.2.2.2.1.free 5
   go_upto_region 10 with fail
   have V9:Hid (RK (w9a.setCell ⟨r5,5,none⟩ (.slice f9 l9 q9)) d ob ao cap L k9 b9/\Blk (w9a.setCell ⟨r5,5,none⟩ (.slice f9 l9 q9)) w.heap.size 116 #[.int .i64 0,.string ⟨#[]⟩,.slice none 0 0,.slice none 0 0,.bool false,.slice none 0 0,.slice none 0 0,.int .i64 0]/\Fr w (w9a.setCell ⟨r5,5,none⟩ (.slice f9 l9 q9)) (RF d ob)/\Blk (w9a.setCell ⟨r5,5,none⟩ (.slice f9 l9 q9)) r5 116 #[.int .i64 ((4:Nat):Int),.string ⟨o2.toArray⟩,.slice f3 l3 q3,.slice none 0 0,.bool x8,.slice f9 l9 q9,.slice none 0 0,.int .i64 0]/\Own (w9a.setCell ⟨r5,5,none⟩ (.slice f9 l9 q9)) w.heap.size (.slice f3 l3 q3) o3/\Own (w9a.setCell ⟨r5,5,none⟩ (.slice f9 l9 q9)) w.heap.size (.slice f9 l9 q9) o9/\True):=by
    have hg:=grown_setCell w9a r5 5 (.slice f9 l9 q9)
    exact ⟨U9.out.1.other U9.out.2.2.2.1 (by decide) (by decide) (op_cells _ _ _ _ _ _ _ _ _ _ _ _ _ _ _ _) hg,U9.out.2.1.grown hg (by simp;exact fun e=>HB.out.2 e.symm),fr_new U9.out.2.2.1 hg HB.out.1,U9.out.2.2.2.1.store 5 _,own_set U9.out.2.2.2.2.1 U9.out.2.2.2.1 (by decide) hg,own_set U9.out.2.2.2.2.2.1 U9.out.2.2.2.1 (by decide) hg,trivial⟩
   clear U9 x0 x1
   generalize (w9a.setCell ⟨r5,5,none⟩ (.slice f9 l9 q9))=w9b at V9 ⊢
   have x0:=V9.out.2.2.2.1.cell 3
   go_wp2_with (go_at_call 74;refine (piece63 d ob ao cap L k9 b9 _ V9.out.1).mono ?_)
   rintro e w10a ⟨v10,o10,k10,b10,rfl,ho,⟨hrk,hfr⟩,hS⟩
   obtain ⟨f10,q10,e10⟩:=ho.seg.shape
   obtain ⟨l10,hl10⟩:∃l,o10.length=l:=⟨_,rfl⟩
   rw [hl10] at e10
   subst e10
   have HL10:Hid (o10.length=l10):=hl10
   have U10:Hid (RK w10a d ob ao cap L k10 b10/\Blk w10a w.heap.size 116 #[.int .i64 0,.string ⟨#[]⟩,.slice none 0 0,.slice none 0 0,.bool false,.slice none 0 0,.slice none 0 0,.int .i64 0]/\Fr w w10a (RF d ob)/\Blk w10a r5 116 #[.int .i64 ((4:Nat):Int),.string ⟨o2.toArray⟩,.slice f3 l3 q3,.slice none 0 0,.bool x8,.slice f9 l9 q9,.slice none 0 0,.int .i64 0]/\Own w10a w.heap.size (.slice f3 l3 q3) o3/\Own w10a w.heap.size (.slice f9 l9 q9) o9/\Own w10a w.heap.size (.slice f10 l10 q10) o10/\True):=⟨hrk,blk_fr V9.out.2.1 V9.out.1 hfr (by decide) (by decide),fr_t V9.out.2.2.1 hfr,blk_fr V9.out.2.2.2.1 V9.out.1 hfr (by decide) (by decide),own_fr V9.out.2.2.2.2.1 V9.out.1 hfr,own_fr V9.out.2.2.2.2.2.1 V9.out.1 hfr,ho.mono V9.out.2.2.1.size,trivial⟩
   have HS10:Hid (∀p M,b9=true->p.length<=4096->L.drop k9=bytesForm p ++ M->o10=p/\L.drop k10=M/\b10=true):=hS
   clear hrk hfr hS ho hl10 V9 x0
   have x0:=U10.out.2.2.2.1.cell 3
   have x1:=U10.out.2.2.2.1.free 3
   go_upto_region 14 with fail
   have V10:Hid (RK (w10a.setCell ⟨r5,3,none⟩ (.slice f10 l10 q10)) d ob ao cap L k10 b10/\Blk (w10a.setCell ⟨r5,3,none⟩ (.slice f10 l10 q10)) w.heap.size 116 #[.int .i64 0,.string ⟨#[]⟩,.slice none 0 0,.slice none 0 0,.bool false,.slice none 0 0,.slice none 0 0,.int .i64 0]/\Fr w (w10a.setCell ⟨r5,3,none⟩ (.slice f10 l10 q10)) (RF d ob)/\Blk (w10a.setCell ⟨r5,3,none⟩ (.slice f10 l10 q10)) r5 116 #[.int .i64 ((4:Nat):Int),.string ⟨o2.toArray⟩,.slice f3 l3 q3,.slice f10 l10 q10,.bool x8,.slice f9 l9 q9,.slice none 0 0,.int .i64 0]/\Own (w10a.setCell ⟨r5,3,none⟩ (.slice f10 l10 q10)) w.heap.size (.slice f3 l3 q3) o3/\Own (w10a.setCell ⟨r5,3,none⟩ (.slice f10 l10 q10)) w.heap.size (.slice f9 l9 q9) o9/\Own (w10a.setCell ⟨r5,3,none⟩ (.slice f10 l10 q10)) w.heap.size (.slice f10 l10 q10) o10/\True):=by
    have hg:=grown_setCell w10a r5 3 (.slice f10 l10 q10)
    exact ⟨U10.out.1.other U10.out.2.2.2.1 (by decide) (by decide) (op_cells _ _ _ _ _ _ _ _ _ _ _ _ _ _ _ _) hg,U10.out.2.1.grown hg (by simp;exact fun e=>HB.out.2 e.symm),fr_new U10.out.2.2.1 hg HB.out.1,U10.out.2.2.2.1.store 3 _,own_set U10.out.2.2.2.2.1 U10.out.2.2.2.1 (by decide) hg,own_set U10.out.2.2.2.2.2.1 U10.out.2.2.2.1 (by decide) hg,own_set U10.out.2.2.2.2.2.2.1 U10.out.2.2.2.1 (by decide) hg,trivial⟩
   clear U10 x0 x1
   generalize (w10a.setCell ⟨r5,3,none⟩ (.slice f10 l10 q10))=w10b at V10 ⊢
   obtain ⟨y0,y1,y2,y3,y4,y5,y6,y7⟩:=cells8 V10.out.2.2.2.1
   obtain ⟨r0,r1,r2,r3,r4,r5',r6,r7⟩:=cells8 V10.out.2.1
   obtain ⟨z0,z1,z2,z3,z4,z5,z6,z7⟩:=frees8 V10.out.2.1
   go_wp2_with fail
   have hb:=((((((((V10.out.2.1.store 0 (.int .i64 ((4:Nat):Int))).store 1 (.string ⟨o2.toArray⟩)).store 2 (.slice f3 l3 q3)).store 3 (.slice f10 l10 q10)).store 4 (.bool x8)).store 5 (.slice f9 l9 q9)).store 6 (.slice none 0 0)).store 7 (.int .i64 0))
   refine bodyPost_ret (v:=_) (results_cell_row rfl _ _ w.heap.size 116 _ (0,0) _ rfl hb Tryz.underlying116 rfl (by kernel_rfl)) rfl ?_
   have hg:=grown8 w10b w.heap.size (.int .i64 ((4:Nat):Int)) (.string ⟨o2.toArray⟩) (.slice f3 l3 q3) (.slice f10 l10 q10) (.bool x8) (.slice f9 l9 q9) (.slice none 0 0) (.int .i64 0)
   refine ⟨_,_,_,_,⟨4,o2,o3,o10,x8,o9,[],0⟩,k10,b10,rfl,⟨.inl (own_set V10.out.2.2.2.2.1 V10.out.2.1 (by decide) hg),.inl (own_set V10.out.2.2.2.2.2.2.1 V10.out.2.1 (by decide) hg),.inl (own_set V10.out.2.2.2.2.2.1 V10.out.2.1 (by decide) hg),.inl (Own.nil _ _),⟨by first | (simp <;> omega) | omega,by first | (simp <;> omega) | omega,by simp,by simp,LT.out⟩⟩,⟨V10.out.1.other V10.out.2.1 (by decide) (by decide) (op_cells _ _ _ _ _ _ _ _ _ _ _ _ _ _ _ _) hg,fr_new V10.out.2.2.1 hg (Nat.le_refl _)⟩,fun p M hb1 hp e=>?_⟩
   obtain ⟨h1,h2,h3,h4,h5,hm⟩:=HH.out p M hb1 hp e
   unfold tailForm at h4
   rw [if_neg (by omega),if_pos (by omega)] at h4
   simp only [List.append_assoc] at h4
   obtain ⟨h6,h7,h8⟩:=HS8.out p.has _ h5 h4
   obtain ⟨h9,h10,h11⟩:=HS9.out p.old _ h8 (by have:=hm.old;omega) h7
   obtain ⟨h12,h13,h14⟩:=HS10.out p.value M h11 (by have:=hm.value;omega) h10
   refine ⟨?_,h13,h14⟩
   have hn:=hm.named
   rw [named,if_neg (by omega),if_neg (by omega),if_pos (by omega)] at hn
   rw [hn,<-h2,<-h3,<-h6,<-h9,<-h12,<-h1]
   rfl
  ·have j4:((n:Int)=4)=False:=eq_false (by omega)
   have j4':((n:Int)==4)=false:=by rw [beq_eq_false_iff_ne];omega
   by_cases k5n:n=5
   ·subst k5n
    clear hn j2 j2' j4 j4'
    have q0:=V3.out.2.2.2.1.cell 0
    have x0:=V3.out.2.2.2.1.cell 6
    go_wp2_with (go_at_call 74;refine (piece63 d ob ao cap L k3 b3 _ V3.out.1).mono ?_)
    rintro e w12a ⟨v12,o12,k12,b12,rfl,ho,⟨hrk,hfr⟩,hS⟩
    obtain ⟨f12,q12,e12⟩:=ho.seg.shape
    obtain ⟨l12,hl12⟩:∃l,o12.length=l:=⟨_,rfl⟩
    rw [hl12] at e12
    subst e12
    have HL12:Hid (o12.length=l12):=hl12
    have U12:Hid (RK w12a d ob ao cap L k12 b12/\Blk w12a w.heap.size 116 #[.int .i64 0,.string ⟨#[]⟩,.slice none 0 0,.slice none 0 0,.bool false,.slice none 0 0,.slice none 0 0,.int .i64 0]/\Fr w w12a (RF d ob)/\Blk w12a r5 116 #[.int .i64 ((5:Nat):Int),.string ⟨o2.toArray⟩,.slice f3 l3 q3,.slice none 0 0,.bool false,.slice none 0 0,.slice none 0 0,.int .i64 0]/\Own w12a w.heap.size (.slice f3 l3 q3) o3/\Own w12a w.heap.size (.slice f12 l12 q12) o12/\True):=⟨hrk,blk_fr V3.out.2.1 V3.out.1 hfr (by decide) (by decide),fr_t V3.out.2.2.1 hfr,blk_fr V3.out.2.2.2.1 V3.out.1 hfr (by decide) (by decide),own_fr V3.out.2.2.2.2.1 V3.out.1 hfr,ho.mono V3.out.2.2.1.size,trivial⟩
    have HS12:Hid (∀p M,b3=true->p.length<=4096->L.drop k3=bytesForm p ++ M->o12=p/\L.drop k12=M/\b12=true):=hS
    clear hrk hfr hS ho hl12 V3 x0
    have x0:=U12.out.2.2.2.1.cell 6
    have x1:=U12.out.2.2.2.1.free 6
    go_upto_region 13 with fail
    have V12:Hid (RK (w12a.setCell ⟨r5,6,none⟩ (.slice f12 l12 q12)) d ob ao cap L k12 b12/\Blk (w12a.setCell ⟨r5,6,none⟩ (.slice f12 l12 q12)) w.heap.size 116 #[.int .i64 0,.string ⟨#[]⟩,.slice none 0 0,.slice none 0 0,.bool false,.slice none 0 0,.slice none 0 0,.int .i64 0]/\Fr w (w12a.setCell ⟨r5,6,none⟩ (.slice f12 l12 q12)) (RF d ob)/\Blk (w12a.setCell ⟨r5,6,none⟩ (.slice f12 l12 q12)) r5 116 #[.int .i64 ((5:Nat):Int),.string ⟨o2.toArray⟩,.slice f3 l3 q3,.slice none 0 0,.bool false,.slice none 0 0,.slice f12 l12 q12,.int .i64 0]/\Own (w12a.setCell ⟨r5,6,none⟩ (.slice f12 l12 q12)) w.heap.size (.slice f3 l3 q3) o3/\Own (w12a.setCell ⟨r5,6,none⟩ (.slice f12 l12 q12)) w.heap.size (.slice f12 l12 q12) o12/\True):=by
     have hg:=grown_setCell w12a r5 6 (.slice f12 l12 q12)
     exact ⟨U12.out.1.other U12.out.2.2.2.1 (by decide) (by decide) (op_cells _ _ _ _ _ _ _ _ _ _ _ _ _ _ _ _) hg,U12.out.2.1.grown hg (by simp;exact fun e=>HB.out.2 e.symm),fr_new U12.out.2.2.1 hg HB.out.1,U12.out.2.2.2.1.store 6 _,own_set U12.out.2.2.2.2.1 U12.out.2.2.2.1 (by decide) hg,own_set U12.out.2.2.2.2.2.1 U12.out.2.2.2.1 (by decide) hg,trivial⟩
    clear U12 x0 x1
    generalize (w12a.setCell ⟨r5,6,none⟩ (.slice f12 l12 q12))=w12b at V12 ⊢
    clear q0
    have x0:=V12.out.2.2.2.1.cell 7
    go_wp2_with (go_at_call 66;refine (number49 d ob ao cap L k12 b12 _ V12.out.1).mono ?_)
    rintro e w13a ⟨x13,k13,b13,rfl,hx13,⟨hrk,hfr⟩,hS⟩
    have U13:Hid (RK w13a d ob ao cap L k13 b13/\Blk w13a w.heap.size 116 #[.int .i64 0,.string ⟨#[]⟩,.slice none 0 0,.slice none 0 0,.bool false,.slice none 0 0,.slice none 0 0,.int .i64 0]/\Fr w w13a (RF d ob)/\Blk w13a r5 116 #[.int .i64 ((5:Nat):Int),.string ⟨o2.toArray⟩,.slice f3 l3 q3,.slice none 0 0,.bool false,.slice none 0 0,.slice f12 l12 q12,.int .i64 0]/\Own w13a w.heap.size (.slice f3 l3 q3) o3/\Own w13a w.heap.size (.slice f12 l12 q12) o12/\True):=⟨hrk,blk_fr V12.out.2.1 V12.out.1 hfr (by decide) (by decide),fr_t V12.out.2.2.1 hfr,blk_fr V12.out.2.2.2.1 V12.out.1 hfr (by decide) (by decide),own_fr V12.out.2.2.2.2.1 V12.out.1 hfr,own_fr V12.out.2.2.2.2.2.1 V12.out.1 hfr,trivial⟩
    have HS13:Hid (∀m M,b12=true->m<1073741824->L.drop k12=Wire.numForm m ++ M->x13=m/\L.drop k13=M/\b13=true):=hS
    clear hrk hfr hS V12 x0
    have x0:=U13.out.2.2.2.1.cell 7
    have x1:=U13.out.2.2.2.1.free 7
    go_upto_region 14 with fail
    have V13:Hid (RK (w13a.setCell ⟨r5,7,none⟩ (.int .i64 (x13:Int))) d ob ao cap L k13 b13/\Blk (w13a.setCell ⟨r5,7,none⟩ (.int .i64 (x13:Int))) w.heap.size 116 #[.int .i64 0,.string ⟨#[]⟩,.slice none 0 0,.slice none 0 0,.bool false,.slice none 0 0,.slice none 0 0,.int .i64 0]/\Fr w (w13a.setCell ⟨r5,7,none⟩ (.int .i64 (x13:Int))) (RF d ob)/\Blk (w13a.setCell ⟨r5,7,none⟩ (.int .i64 (x13:Int))) r5 116 #[.int .i64 ((5:Nat):Int),.string ⟨o2.toArray⟩,.slice f3 l3 q3,.slice none 0 0,.bool false,.slice none 0 0,.slice f12 l12 q12,.int .i64 (x13:Int)]/\Own (w13a.setCell ⟨r5,7,none⟩ (.int .i64 (x13:Int))) w.heap.size (.slice f3 l3 q3) o3/\Own (w13a.setCell ⟨r5,7,none⟩ (.int .i64 (x13:Int))) w.heap.size (.slice f12 l12 q12) o12/\True):=by
     have hg:=grown_setCell w13a r5 7 (.int .i64 (x13:Int))
     exact ⟨U13.out.1.other U13.out.2.2.2.1 (by decide) (by decide) (op_cells _ _ _ _ _ _ _ _ _ _ _ _ _ _ _ _) hg,U13.out.2.1.grown hg (by simp;exact fun e=>HB.out.2 e.symm),fr_new U13.out.2.2.1 hg HB.out.1,U13.out.2.2.2.1.store 7 _,own_set U13.out.2.2.2.2.1 U13.out.2.2.2.1 (by decide) hg,own_set U13.out.2.2.2.2.2.1 U13.out.2.2.2.1 (by decide) hg,trivial⟩
    clear U13 x0 x1
    generalize (w13a.setCell ⟨r5,7,none⟩ (.int .i64 (x13:Int)))=w13b at V13 ⊢
    obtain ⟨y0,y1,y2,y3,y4,y5,y6,y7⟩:=cells8 V13.out.2.2.2.1
    obtain ⟨r0,r1,r2,r3,r4,r5',r6,r7⟩:=cells8 V13.out.2.1
    obtain ⟨z0,z1,z2,z3,z4,z5,z6,z7⟩:=frees8 V13.out.2.1
    go_wp2_with fail
    have hb:=((((((((V13.out.2.1.store 0 (.int .i64 ((5:Nat):Int))).store 1 (.string ⟨o2.toArray⟩)).store 2 (.slice f3 l3 q3)).store 3 (.slice none 0 0)).store 4 (.bool false)).store 5 (.slice none 0 0)).store 6 (.slice f12 l12 q12)).store 7 (.int .i64 (x13:Int)))
    refine bodyPost_ret (v:=_) (results_cell_row rfl _ _ w.heap.size 116 _ (0,0) _ rfl hb Tryz.underlying116 rfl (by kernel_rfl)) rfl ?_
    have hg:=grown8 w13b w.heap.size (.int .i64 ((5:Nat):Int)) (.string ⟨o2.toArray⟩) (.slice f3 l3 q3) (.slice none 0 0) (.bool false) (.slice none 0 0) (.slice f12 l12 q12) (.int .i64 (x13:Int))
    refine ⟨_,_,_,_,⟨5,o2,o3,[],false,[],o12,x13⟩,k13,b13,rfl,⟨.inl (own_set V13.out.2.2.2.2.1 V13.out.2.1 (by decide) hg),.inl (Own.nil _ _),.inl (Own.nil _ _),.inl (own_set V13.out.2.2.2.2.2.1 V13.out.2.1 (by decide) hg),⟨by first | (simp <;> omega) | omega,by first | (simp <;> omega) | omega,by first | (simp <;> omega) | omega,by first | (simp <;> omega) | omega,LT.out⟩⟩,⟨V13.out.1.other V13.out.2.1 (by decide) (by decide) (op_cells _ _ _ _ _ _ _ _ _ _ _ _ _ _ _ _) hg,fr_new V13.out.2.2.1 hg (Nat.le_refl _)⟩,fun p M hb1 hp e=>?_⟩
    obtain ⟨h1,h2,h3,h4,h5,hm⟩:=HH.out p M hb1 hp e
    have h5k:p.kind=5:=by omega
    have hmo:=hm.most h5k
    unfold tailForm at h4
    rw [if_neg (by omega),if_neg (by omega),if_pos (by omega)] at h4
    simp only [List.append_assoc] at h4
    obtain ⟨h6,h7,h8⟩:=HS12.out p.to _ h5 (by have:=hm.to;omega) h4
    obtain ⟨h9,h10,h11⟩:=HS13.out p.most.toNat M h8 (by omega) h7
    refine ⟨?_,h10,h11⟩
    have hn:=hm.named
    rw [named,if_neg (by omega),if_neg (by omega),if_neg (by omega),if_pos (by omega)] at hn
    rw [hn,<-h2,<-h3,<-h6,<-h1,show p.most=(x13:Int) by omega]
    rfl
   ·have j5:((n:Int)=5)=False:=eq_false (by omega)
    have j5':((n:Int)==5)=false:=by rw [beq_eq_false_iff_ne];omega
    obtain ⟨y0,y1,y2,y3,y4,y5,y6,y7⟩:=cells8 V3.out.2.2.2.1
    obtain ⟨r0,r1,r2,r3,r4,r5',r6,r7⟩:=cells8 V3.out.2.1
    obtain ⟨z0,z1,z2,z3,z4,z5,z6,z7⟩:=frees8 V3.out.2.1
    go_wp2_with fail
    have hb:=((((((((V3.out.2.1.store 0 (.int .i64 (n:Int))).store 1 (.string ⟨o2.toArray⟩)).store 2 (.slice f3 l3 q3)).store 3 (.slice none 0 0)).store 4 (.bool false)).store 5 (.slice none 0 0)).store 6 (.slice none 0 0)).store 7 (.int .i64 0))
    refine bodyPost_ret (v:=_) (results_cell_row rfl _ _ w.heap.size 116 _ (0,0) _ rfl hb Tryz.underlying116 rfl (by kernel_rfl)) rfl ?_
    have hg:=grown8 w3b w.heap.size (.int .i64 (n:Int)) (.string ⟨o2.toArray⟩) (.slice f3 l3 q3) (.slice none 0 0) (.bool false) (.slice none 0 0) (.slice none 0 0) (.int .i64 0)
    refine ⟨_,_,_,_,⟨n,o2,o3,[],false,[],[],0⟩,k3,b3,rfl,⟨.inl (own_set V3.out.2.2.2.2.1 V3.out.2.1 (by decide) hg),.inl (Own.nil _ _),.inl (Own.nil _ _),.inl (Own.nil _ _),⟨by first | (simp <;> omega) | omega,by first | (simp <;> omega) | omega,by simp,by simp,LT.out⟩⟩,⟨V3.out.1.other V3.out.2.1 (by decide) (by decide) (op_cells _ _ _ _ _ _ _ _ _ _ _ _ _ _ _ _) hg,fr_new V3.out.2.2.1 hg (Nat.le_refl _)⟩,fun p M hb1 hp e=>?_⟩
    obtain ⟨h1,h2,h3,h4,h5,hm⟩:=HH.out p M hb1 hp e
    have hk:=hm.kind
    unfold tailForm at h4
    rw [if_neg (by omega),if_neg (by omega),if_neg (by omega)] at h4
    refine ⟨?_,h4,h5⟩
    have hn:=hm.named
    rw [named,if_pos (by omega)] at hn
    rw [hn,<-h2,<-h3,<-h1]
theorem fr_grown {a b c:World}{d ob:Nat}(h:a.grownBy b none)(hf:Fr b c (RF d ob))(h1:a.heap.size<=d)(h2:a.heap.size<=ob):a.grownBy c none :=
 ⟨hf.os.trans h.os,hf.tape.trans h.tape,hf.output.trans h.output,Nat.le_trans h.size hf.size,fun i hi _=>(hf.block i (Nat.lt_of_lt_of_le hi h.size) (fun e=>by rcases e with rfl | rfl <;> omega)).trans (h.block i hi (by simp))⟩
def NumPost (d ob:Nat)(ao:Option Addr)(cap:Nat)(L:Bs)(k:Nat)(b:Bool)(w:World)(e:Ending)(w':World):Prop:=∃n k' b',e=.returned (.int .i64 ((n:Nat):Int))/\n<1073741824/\DkPost d ob ao cap L k' b' w w'/\(∀m M,b=true->m<1073741824->L.drop k=Wire.numForm m ++ M->n=m/\L.drop k'=M/\b'=true)
theorem number49' (d ob:Nat)(ao:Option Addr)(cap:Nat)(L:Bs)(k:Nat)(b:Bool)(w:World)(h:RK w d ob ao cap L k b):Calls Tryz.prog 66 #[.pointer (some ⟨d,0,none⟩),.pointer (some ⟨ob,0,none⟩)] w (NumPost d ob ao cap L k b w):=number49 d ob ao cap L k b w h
theorem fr_two {w w':World}{d ob:Nat}(h:Fr w w' (RF d ob))(hob:ob<w.heap.size):∃x:World,w.grownBy x (some d)/\x.grownBy w' (some ob):=by
 refine ⟨{ w' with heap:=w'.heap.setIfInBounds ob w.heap[ob] },⟨h.os,h.tape,h.output,by simpa using h.size,fun i hi hr=>?_⟩,⟨rfl,rfl,rfl,by simp,fun i hi hr=>?_⟩⟩
 ·by_cases e:ob=i
  ·subst e
   have h1:ob<w'.heap.size:=Nat.lt_of_lt_of_le hob h.size
   simp [h1,hob]
  ·simp only [Array.getElem?_setIfInBounds,if_neg e]
   exact h.block i hi (fun e2=>by
    rcases e2 with rfl | rfl
    ·exact hr rfl
    ·exact e rfl)
 ·have e:ob≠i:=fun e=>hr (by rw [e])
  simp only [Array.getElem?_setIfInBounds,if_neg e]
theorem opsOwn_fr {w w':World}{d ob:Nat}{ao:Option Addr}{cap:Nat}{L:Bs}{k B:Nat}{b:Bool}{v:Value}{l:List POp}(h:OpsOwn w B v l)(hr:RK w d ob ao cap L k b)(hf:Fr w w' (RF d ob)):OpsOwn w' B v l:=by
 obtain ⟨x,g1,g2⟩:=fr_two hf hr.ok.lt
 exact (h.set hr.rf (by decide) (by decide) g1).set (hr.ok.grown g1 (by simp;exact hr.ne)) (by decide) (by decide) g2
theorem may_both {l:List POp}(h:mayCall l=true):l.length<=16/\∀o ∈ l,mayOp o=true:=by
 unfold mayCall at h
 simp only [Bool.and_eq_true,decide_eq_true_eq,List.all_eq_true] at h
 exact ⟨h.1.2,h.2⟩
theorem drop_forms {l:List POp}{i:Nat}(hi:i<l.length):(l.drop i).flatMap opForm=opForm l[i] ++ (l.drop (i+1)).flatMap opForm:=by
 rw [List.drop_eq_getElem_cons hi];rfl
theorem read23 (v:Value)(L:Bs)(w:World)(hs:Seg w v L)(hz:L.length<=140737488355328):Calls Tryz.prog 42 #[v] w (ReadPost w (readC L)):=by
 have HS:Hid (Seg w v L):=hs
 obtain ⟨ao,cap,e⟩:=hs.shape
 obtain ⟨m,hm⟩:∃m,L.length=m:=⟨_,rfl⟩
 rw [hm] at e hz
 subst e
 have HL:Hid (L.length=m):=hm
 clear hs hm
 by_cases hb:m<=4096
 case neg =>
  have HC:Hid (readC L=([],3)):=by unfold Hid readC;rw [HL.out,if_neg hb]
  have i1:(4096:Int)<(m:Int):=by omega
  rw [HC.out]
  have hbk:=heap_alloc_new w (.cells #[.slice none 0 0] 26)
  have cc:(w.alloc (.cells #[.slice none 0 0] 26)).cell? ⟨w.heap.size,0,none⟩=some (.slice none 0 0):=Blk.cell hbk 0
  clear hbk
  go_enter Tryz.func42,Tryz.ntmps42
  go_wp2_with fail
  refine bodyPost_ret (v:=.tuple #[.agg #[.slice none 0 0],.int .i64 3]) (by simp [results,Tryz.results42,go_sem,cc]) rfl ?_
  exact ⟨_,rfl,⟨lrow_nil _ _,by simp⟩,World.grownBy_alloc _ _ none⟩
 have i1:((4096:Int)<(m:Int))=False:=eq_false (by omega)
 go_enter Tryz.func42,Tryz.ntmps42
 go_upto_region 6 with fail
 have S0:Hid (OpsOwn ((((w.alloc (.cells #[.slice none 0 0] 26)).alloc (.cells #[.slice ao m cap,.int .i64 0] 79)).alloc (.cells #[.bool true] 4)).alloc (.cells #[.slice none 0 0] 26)) w.heap.size (.slice none 0 0) []/\Blk ((((w.alloc (.cells #[.slice none 0 0] 26)).alloc (.cells #[.slice ao m cap,.int .i64 0] 79)).alloc (.cells #[.bool true] 4)).alloc (.cells #[.slice none 0 0] 26)) w.heap.size 26 #[.slice none 0 0]/\Blk ((((w.alloc (.cells #[.slice none 0 0] 26)).alloc (.cells #[.slice ao m cap,.int .i64 0] 79)).alloc (.cells #[.bool true] 4)).alloc (.cells #[.slice none 0 0] 26)) (w.heap.size+1+1+1) 26 #[.slice none 0 0]/\RK ((((w.alloc (.cells #[.slice none 0 0] 26)).alloc (.cells #[.slice ao m cap,.int .i64 0] 79)).alloc (.cells #[.bool true] 4)).alloc (.cells #[.slice none 0 0] 26)) (w.heap.size+1) (w.heap.size+1+1) ao cap L 0 true/\w.grownBy ((((w.alloc (.cells #[.slice none 0 0] 26)).alloc (.cells #[.slice ao m cap,.int .i64 0] 79)).alloc (.cells #[.bool true] 4)).alloc (.cells #[.slice none 0 0] 26)) none):=by
  have b0:=heap_alloc_new w (.cells #[.slice none 0 0] 26)
  have b1:=heap_alloc_new (w.alloc (.cells #[.slice none 0 0] 26)) (.cells #[.slice ao m cap,.int .i64 0] 79)
  have b2:=heap_alloc_new ((w.alloc (.cells #[.slice none 0 0] 26)).alloc (.cells #[.slice ao m cap,.int .i64 0] 79)) (.cells #[.bool true] 4)
  have b3:=heap_alloc_new (((w.alloc (.cells #[.slice none 0 0] 26)).alloc (.cells #[.slice ao m cap,.int .i64 0] 79)).alloc (.cells #[.bool true] 4)) (.cells #[.slice none 0 0] 26)
  have g0:=World.grownBy_alloc w (.cells #[.slice none 0 0] 26) none
  have g1:=World.grownBy_alloc (w.alloc (.cells #[.slice none 0 0] 26)) (.cells #[.slice ao m cap,.int .i64 0] 79) none
  have g2:=World.grownBy_alloc ((w.alloc (.cells #[.slice none 0 0] 26)).alloc (.cells #[.slice ao m cap,.int .i64 0] 79)) (.cells #[.bool true] 4) none
  have g3:=World.grownBy_alloc (((w.alloc (.cells #[.slice none 0 0] 26)).alloc (.cells #[.slice ao m cap,.int .i64 0] 79)).alloc (.cells #[.bool true] 4)) (.cells #[.slice none 0 0] 26) none
  have ga:=grown_trans g0 (grown_trans g1 (grown_trans g2 g3))
  refine ⟨⟨lrow_nil _ _,by simp⟩,Blk.grown b0 (grown_trans g1 (grown_trans g2 g3)) (by simp),?_,⟨?_,?_,?_,by omega,by rw [HL.out];omega⟩,ga⟩
  ·simpa [Blk] using b3
  ·rw [HL.out];exact HS.out.grown ga
  ·have:=Blk.grown b1 (grown_trans g2 g3) (by simp)
   rw [HL.out]
   simpa [Blk] using this
  ·have:=Blk.grown b2 g3 (by simp)
   simpa [Blk] using this
 generalize ((((w.alloc (.cells #[.slice none 0 0] 26)).alloc (.cells #[.slice ao m cap,.int .i64 0] 79)).alloc (.cells #[.bool true] 4)).alloc (.cells #[.slice none 0 0] 26))=W0 at S0 ⊢
 go_wp2_with (go_at_call 66;refine (number49' _ _ ao cap L 0 true _ S0.out.2.2.2.1).mono ?_)
 rintro e w1 ⟨n,k1,b1,rfl,hn,⟨hrk,hfr⟩,hS⟩
 have S1:Hid (OpsOwn w1 w.heap.size (.slice none 0 0) []/\Blk w1 w.heap.size 26 #[.slice none 0 0]/\Blk w1 (w.heap.size+1+1+1) 26 #[.slice none 0 0]/\RK w1 (w.heap.size+1) (w.heap.size+1+1) ao cap L k1 b1/\w.grownBy w1 none):=⟨⟨lrow_nil _ _,by simp⟩,blk_fr S0.out.2.1 S0.out.2.2.2.1 hfr (by decide) (by decide),blk_fr S0.out.2.2.1 S0.out.2.2.2.1 hfr (by decide) (by decide),hrk,fr_grown S0.out.2.2.2.2 hfr (by omega) (by omega)⟩
 have HQ:Hid (∀l,mayCall l=true->L=callForm l->0<=l.length->n=l.length/\b1=true/\([]:List POp)=l.take 0/\L.drop k1=(l.drop 0).flatMap opForm):=by
  intro l hl e _
  have h16:=(may_both hl).1
  obtain ⟨h1,h2,h3⟩:=hS l.length (l.flatMap opForm) rfl (by omega) (by rw [List.drop_zero];exact e)
  exact ⟨h1,h3,by simp,by rw [h2,List.drop_zero]⟩
 have HT0:Hid (∀l,mayCall l=true->L=callForm l->n=l.length/\True/\True/\True):=fun l hl e=>⟨(HQ.out l hl e (by omega)).1,trivial,trivial,trivial⟩
 clear hrk hfr hS S0
 go_wp2_with fail
 go_loopw [8] (fun i wr=>∃(k k':Nat) (b:Bool) (xs:List POp) (v:Value),k<=17/\k<=n/\i=.int .i64 k/\Hid (xs.length=k)/\Hid (∀l,mayCall l=true->L=callForm l->k<=l.length->n=l.length/\b=true/\xs=l.take k/\L.drop k'=(l.drop k).flatMap opForm)/\Hid (OpsOwn wr w.heap.size (v) xs/\Blk wr w.heap.size 26 #[.slice none 0 0]/\Blk wr (w.heap.size+1+1+1) 26 #[v]/\RK wr (w.heap.size+1) (w.heap.size+1+1) ao cap L k' b/\w.grownBy wr none)) (fun i _=>17-(intOf i).toNat)
 case atStart=>exact ⟨0,k1,b1,[],_,by omega,by omega,rfl,rfl,HQ,S1⟩
 case round =>
  obtain ⟨k,k',b,xs,v,hk17,hkn,rfl,HX,HT,HO⟩:=hrel
  clear S1 HQ
  obtain ⟨xa,na,ya,rfl,hna⟩:=HO.out.1.slice
  clear hna
  have co:wr.cell? ⟨(w.heap.size+1+1),0,none⟩=some (.bool b):=HO.out.2.2.2.1.ok.cell 0
  by_cases hgo:k<n/\k<=16/\b=true
  ·obtain ⟨h1,h2,rfl⟩:=hgo
   have i2:(k:Int)<(n:Int):=by omega
   have i3:(k:Int)<=16:=by omega
   go_wp2_with fail
   clear co
   refine wp_region_hold 7 (fun x=>x.cell? ⟨(w.heap.size+1+1+1),0,none⟩=some (.slice xa na ya)) (by kernel_rfl) ?_
   have G0:Hid (OpsOwn wr.drew w.heap.size (.slice xa na ya) xs/\Blk wr.drew w.heap.size 26 #[.slice none 0 0]/\Blk wr.drew (w.heap.size+1+1+1) 26 #[.slice xa na ya]/\RK wr.drew (w.heap.size+1) (w.heap.size+1+1) ao cap L k' true/\w.grownBy wr.drew none):=by
    have hg:=grown_drew wr none
    exact ⟨HO.out.1.grown hg,HO.out.2.1.grown hg (by simp),HO.out.2.2.1.grown hg (by simp),HO.out.2.2.2.1.grown hg,grown_trans HO.out.2.2.2.2 hg⟩
   generalize wr.drew=w0 at G0 ⊢
   clear HO
   have J:Idx [0,1,2]:=trivial
   iterate 3 (refine tK J (G0.out.2.2.1.cell 0) rfl rfl (fun wk hk=>by skip;go_simp;try rfl) ?_;replace J:=J.tl;try simp only [pN])
   clear J
   refine wpHold_one (i:=3) rfl (by kernel_rfl) (by rfl) (fun K hK=>?_)
   go_wp2_with (go_at_call 67;refine (op50 _ _ ao cap L k' true _ G0.out.2.2.2.1).mono ?_)
   rintro e w1 ⟨kk,x,ol,t,o,k2,b2,rfl,ho,⟨hrk,hfr⟩,hS⟩
   obtain ⟨xb,nb,yb,rfl⟩:=cut_slice ho.key
   obtain ⟨xc,nc,yc,rfl⟩:=cut_slice ho.value
   obtain ⟨xd,nd,yd,rfl⟩:=cut_slice ho.old
   obtain ⟨xe,ne,ye,rfl⟩:=cut_slice ho.tos
   have H1:Hid ((OpsOwn w1 w.heap.size (.slice xa na ya) xs/\Blk w1 w.heap.size 26 #[.slice none 0 0]/\Blk w1 (w.heap.size+1+1+1) 26 #[.slice xa na ya]/\RK w1 (w.heap.size+1) (w.heap.size+1+1) ao cap L k2 b2/\w.grownBy w1 none)/\OpOwn w1 w.heap.size (.slice xb nb yb) (.slice xc nc yc) (.slice xd nd yd) (.slice xe ne ye) o):=⟨⟨opsOwn_fr G0.out.1 G0.out.2.2.2.1 hfr,blk_fr G0.out.2.1 G0.out.2.2.2.1 hfr (by decide) (by decide),blk_fr G0.out.2.2.1 G0.out.2.2.2.1 hfr (by decide) (by decide),hrk,fr_grown G0.out.2.2.2.2 hfr (by omega) (by omega)⟩,ho.mono G0.out.2.2.2.2.size⟩
   have HT2:Hid (∀l,mayCall l=true->L=callForm l->(k+1)<=l.length->n=l.length/\b2=true/\(xs ++ [o])=l.take (k+1)/\L.drop k2=(l.drop (k+1)).flatMap opForm):=by
    intro l hl e hlen
    obtain ⟨q1,_,q3,q4⟩:=HT.out l hl e (by omega)
    have hi:k<l.length:=by omega
    rw [drop_forms hi] at q4
    obtain ⟨p1,p2,p3⟩:=hS l[k] _ rfl ((may_both hl).2 _ (List.getElem_mem hi)) q4
    exact ⟨q1,p3,by rw [p1,q3,List.take_succ_eq_append_getElem hi],p2⟩
   clear hS ho hrk hfr G0 HT
   unfold opV Str
   go_wp2_with fail
   refine hK.out _ _ (fun _=>H1.out.1.2.2.1.cell 0) ?_
   clear hK K
   try simp only [pN]
   refine wpHold_one (i:=4) rfl (by kernel_rfl) (by rfl) (fun K hK=>?_)
   go_wp2_with fail
   have H2:Hid ((OpsOwn (w1.alloc (.cells #[.int .i64 o.kind,.string ⟨o.table.toArray⟩,.slice xb nb yb,.slice xc nc yc,.bool o.has,.slice xd nd yd,.slice xe ne ye,.int .i64 o.most] 116)) w.heap.size (.slice xa na ya) xs/\Blk (w1.alloc (.cells #[.int .i64 o.kind,.string ⟨o.table.toArray⟩,.slice xb nb yb,.slice xc nc yc,.bool o.has,.slice xd nd yd,.slice xe ne ye,.int .i64 o.most] 116)) w.heap.size 26 #[.slice none 0 0]/\Blk (w1.alloc (.cells #[.int .i64 o.kind,.string ⟨o.table.toArray⟩,.slice xb nb yb,.slice xc nc yc,.bool o.has,.slice xd nd yd,.slice xe ne ye,.int .i64 o.most] 116)) (w.heap.size+1+1+1) 26 #[.slice xa na ya]/\RK (w1.alloc (.cells #[.int .i64 o.kind,.string ⟨o.table.toArray⟩,.slice xb nb yb,.slice xc nc yc,.bool o.has,.slice xd nd yd,.slice xe ne ye,.int .i64 o.most] 116)) (w.heap.size+1) (w.heap.size+1+1) ao cap L k2 b2/\w.grownBy (w1.alloc (.cells #[.int .i64 o.kind,.string ⟨o.table.toArray⟩,.slice xb nb yb,.slice xc nc yc,.bool o.has,.slice xd nd yd,.slice xe ne ye,.int .i64 o.most] 116)) none)/\OpOwn (w1.alloc (.cells #[.int .i64 o.kind,.string ⟨o.table.toArray⟩,.slice xb nb yb,.slice xc nc yc,.bool o.has,.slice xd nd yd,.slice xe ne ye,.int .i64 o.most] 116)) w.heap.size (.slice xb nb yb) (.slice xc nc yc) (.slice xd nd yd) (.slice xe ne ye) o/\Blk (w1.alloc (.cells #[.int .i64 o.kind,.string ⟨o.table.toArray⟩,.slice xb nb yb,.slice xc nc yc,.bool o.has,.slice xd nd yd,.slice xe ne ye,.int .i64 o.most] 116)) w1.heap.size 116 #[.int .i64 o.kind,.string ⟨o.table.toArray⟩,.slice xb nb yb,.slice xc nc yc,.bool o.has,.slice xd nd yd,.slice xe ne ye,.int .i64 o.most]):=by
    have hg:=World.grownBy_alloc w1 (.cells #[.int .i64 o.kind,.string ⟨o.table.toArray⟩,.slice xb nb yb,.slice xc nc yc,.bool o.has,.slice xd nd yd,.slice xe ne ye,.int .i64 o.most] 116) none
    exact ⟨⟨H1.out.1.1.grown hg,H1.out.1.2.1.grown hg (by simp),H1.out.1.2.2.1.grown hg (by simp),H1.out.1.2.2.2.1.grown hg,grown_trans H1.out.1.2.2.2.2 hg⟩,H1.out.2.grown hg,heap_alloc_new _ _⟩
   clear H1
   refine hK.out _ _ (fun _=>H2.out.1.2.2.1.cell 0) ?_
   clear hK K
   try simp only [pN]
   refine wpHold_one (i:=5) rfl (by kernel_rfl) (by rfl) (fun K hK=>?_)
   refine app71_wp _ (.tmp 31) (.tmp 34) rfl w.heap.size (.slice xa na ya) xs o _ _ _ _ _ rfl rfl H2.out.1.1 H2.out.2.2 H2.out.2.1 (by have:=HX.out;omega) H2.out.1.2.2.2.2.size ?_
   intro g' cap' w3 o3 g3 l3
   have H3:Hid (OpsOwn w3 w.heap.size ((.slice (some ⟨g',0,none⟩) (xs.length+1) cap')) (xs ++ [o])/\Blk w3 w.heap.size 26 #[.slice none 0 0]/\Blk w3 (w.heap.size+1+1+1) 26 #[.slice xa na ya]/\RK w3 (w.heap.size+1) (w.heap.size+1+1) ao cap L k2 b2/\w.grownBy w3 none):=by
    obtain ⟨vs,hvs,_⟩:=H2.out.1.1.1
    have ne1:∀{b t c},Blk (w1.alloc (.cells #[.int .i64 o.kind,.string ⟨o.table.toArray⟩,.slice xb nb yb,.slice xc nc yc,.bool o.has,.slice xd nd yd,.slice xe ne ye,.int .i64 o.most] 116)) b t c->t≠116->Value.ownBlock (.slice xa na ya)≠some b:=fun hb ht e=>by
     obtain ⟨cur,hc⟩:=owns_blk hvs e
     exact ht (blk_type hb hc)
    have hrk:=H2.out.1.2.2.2.1
    have hgw:w.grownBy w3 none:=grown_new H2.out.1.2.2.2.2 g3 (fun y hy=>(H2.out.1.1.1.lt y hy).1)
    exact ⟨o3,H2.out.1.2.1.grown g3 (ne1 H2.out.1.2.1 (by decide)),H2.out.1.2.2.1.grown g3 (ne1 H2.out.1.2.2.1 (by decide)),⟨by rw [HL.out];exact HS.out.grown hgw,hrk.rf.grown g3 (ne1 hrk.rf (by decide)),hrk.ok.grown g3 (ne1 hrk.ok (by decide)),hrk.le,hrk.zz⟩,hgw⟩
   clear o3 g3 l3 H2
   rw [HX.out]
   refine hK.out _ _ (fun _=>H3.out.2.2.1.cell 0) ?_
   clear hK K
   try simp only [pN]
   refine tK (i:=6) (l':=[]) trivial (H3.out.2.2.1.cell 0) rfl rfl (fun wk hk=>by skip;go_simp;try rfl) ?_
   try simp only [pN]
   refine wpHold_one (i:=7) rfl (by kernel_rfl) (by rfl) (fun K hK=>?_)
   have cc:=H3.out.2.2.1.cell 0
   have zz:=H3.out.2.2.1.free 0
   go_wp2_with fail
   refine hK.out _ _ (fun h=>absurd rfl h) ?_
   clear hK K cc zz
   try simp only [pN]
   refine wpHold_done (by kernel_rfl) ?_
   refine (‹∀(a:Act) (w:World),Code.wp Tryz.prog _ _ a w->_› _ _ ?_)
   have H4:Hid (OpsOwn (w3.setCell ⟨(w.heap.size+1+1+1),0,none⟩ (.slice (some ⟨g',0,none⟩) (k+1) cap')) w.heap.size ((.slice (some ⟨g',0,none⟩) (k+1) cap')) (xs ++ [o])/\Blk (w3.setCell ⟨(w.heap.size+1+1+1),0,none⟩ (.slice (some ⟨g',0,none⟩) (k+1) cap')) w.heap.size 26 #[.slice none 0 0]/\Blk (w3.setCell ⟨(w.heap.size+1+1+1),0,none⟩ (.slice (some ⟨g',0,none⟩) (k+1) cap')) (w.heap.size+1+1+1) 26 #[(.slice (some ⟨g',0,none⟩) (k+1) cap')]/\RK (w3.setCell ⟨(w.heap.size+1+1+1),0,none⟩ (.slice (some ⟨g',0,none⟩) (k+1) cap')) (w.heap.size+1) (w.heap.size+1+1) ao cap L k2 b2/\w.grownBy (w3.setCell ⟨(w.heap.size+1+1+1),0,none⟩ (.slice (some ⟨g',0,none⟩) (k+1) cap')) none):=by
    have hg:=grown_setCell w3 (w.heap.size+1+1+1) 0 (.slice (some ⟨g',0,none⟩) (k+1) cap')
    have h1:=H3.out.1
    rw [HX.out] at h1
    exact ⟨h1.set H3.out.2.2.1 (by decide) (by decide) hg,H3.out.2.1.grown hg (by simp;omega),H3.out.2.2.1.store 0 _,H3.out.2.2.2.1.other H3.out.2.2.1 (by decide) (by decide) (fun j x=>by cases j <;> simp) hg,grown_new H3.out.2.2.2.2 hg (fun y hy=>by simp at hy;omega)⟩
   clear H3
   go_wp2_with fail
   go_roundw
   case rel=>exact ⟨k+1,k2,b2,xs ++ [o],_,by omega,by omega,by go_num,by have h:=HX.out;unfold Hid;rw [List.length_append,h];rfl,HT2,H4⟩
   case measure=>simp [intOf];omega
  ·have HE:Hid (∀l,mayCall l=true->L=callForm l->b=true/\xs=l):=by
    intro l hl e
    have h16:=(may_both hl).1
    by_cases hle:k<=l.length
    ·obtain ⟨q1,q2,q3,_⟩:=HT.out l hl e hle
     have:k=l.length:=by
      by_cases h1:k<n/\k<=16
      ·exact absurd ⟨h1.1,h1.2,q2⟩ hgo
      ·omega
     exact ⟨q2,by rw [q3,this,List.take_length]⟩
    ·obtain ⟨q1,_,_,_⟩:=HT0.out l hl e
     omega
   have HO2:Hid ((OpsOwn wr w.heap.size (.slice xa na ya) xs/\Blk wr w.heap.size 26 #[.slice none 0 0]/\Blk wr (w.heap.size+1+1+1) 26 #[.slice xa na ya]/\RK wr (w.heap.size+1) (w.heap.size+1+1) ao cap L k' b/\w.grownBy wr none)):=HO.out
   clear HT HO
   have h3:(k<n/\k<=16/\b=false)\/(k<n/\16<k)\/n<=k:=by
    by_cases h1:k<n
    ·by_cases h2:k<=16
     ·cases b
      ·exact .inl ⟨h1,h2,rfl⟩
      ·exact absurd ⟨h1,h2,rfl⟩ hgo
     ·exact .inr (.inl ⟨h1,by omega⟩)
    ·exact .inr (.inr (by omega))
   clear hgo
   obtain ⟨ib,hib⟩:∃x,x=b:=⟨_,rfl⟩
   have HIB:Hid (ib=b):=hib
   rw [<-hib] at co h3
   clear hib
   rcases h3 with ⟨h1,h2,h3⟩ | ⟨h1,h2⟩ | h1
   case inl =>
    have i2:(k:Int)<(n:Int):=by omega
    have i3:(k:Int)<=16:=by omega
    rw [h3] at co
    clear h3
    go_upto_region 11 with fail
    clear co i2
    have HC:Hid (∀x:World,wr.grownBy x none->x.cell? ⟨(w.heap.size+1+1),0,none⟩=some (.bool b)/\x.cell? ⟨(w.heap.size+1+1+1),0,none⟩=some (.slice xa na ya)/\(convert 30 9 (.slice ao m cap)).run Tryz.prog x=.ok (.string ⟨L.toArray⟩) x):=fun x hx=>⟨(HO2.out.2.2.2.1.ok.grown hx (by simp)).cell 0,(HO2.out.2.2.1.grown hx (by simp)).cell 0,seg_str (HS.out.grown (grown_trans HO2.out.2.2.2.2 hx))⟩
    by_cases hyes:b=true/\mayCall xs=true/\callForm xs=L
    case pos =>
     have HYES:Hid (readC L=(xs,0)):=by
      unfold Hid readC
      rw [HL.out,if_pos hb,pCall_iff.2 ⟨hyes.2.1,hyes.2.2.symm⟩]
     obtain ⟨rfl,h5,h6⟩:=hyes
     have HMY:Hid (mayCall xs=true):=h5
     have e6:(callForm xs==L)=true:=by rw [h6];simp
     have e7:(callForm xs != L)=false:=by rw [h6];simp
     clear h5 h6
     go_wp2_with fail
     refine wp_region_noPanic ?_
     refine wp_region_hold 1000 (fun x=>wr.grownBy x none) (by kernel_rfl) ?_
     have G0:Hid (wr.grownBy wr.drew none):=grown_drew _ _
     generalize wr.drew=w4 at G0 ⊢
     have J:Idx [0,1,2,3]:=trivial
     iterate 4 (refine tK J (G0.out) rfl rfl (fun wk hk=>by obtain ⟨m0,m1,m2⟩:=HC.out wk hk;go_simp;try rfl) ?_;replace J:=J.tl;try simp only [pN])
     clear J
     refine wpHold_one (i:=4) rfl (by kernel_rfl) (by rfl) (fun K hK=>?_)
     go_wp2_with (go_at_call 68;refine (may37 _ xs _ (HO2.out.1.ops.grown G0.out)).mono ?_)
     rintro e w5 ⟨rfl,hg⟩
     rw [HMY.out]
     have G1:Hid (wr.grownBy w5 none):=grown_trans G0.out hg
     clear hg
     go_wp2_with fail
     refine hK.out _ _ (fun _=>G1.out) ?_
     clear hK K
     try simp only [pN]
     have J:Idx [5,6,7,8,11,12]:=trivial
     iterate 6 (refine tK J (G1.out) rfl rfl (fun wk hk=>by obtain ⟨m0,m1,m2⟩:=HC.out wk hk;go_simp;try rfl) ?_;replace J:=J.tl;try simp only [pN])
     clear J
     refine wpHold_one (i:=9) rfl (by kernel_rfl) (by rfl) (fun K hK=>?_)
     go_wp2_with (go_at_call 40;refine (form20 _ xs _ (HO2.out.1.ops.grown G1.out) HMY.out).mono ?_)
     rintro e w6 ⟨u3,rfl,ho,hg⟩
     obtain ⟨f3,q3,e3⟩:=ho.seg.shape
     obtain ⟨l3,hl3⟩:∃l,(callForm xs).length=l:=⟨_,rfl⟩
     rw [hl3] at e3
     subst e3
     have G2:Hid (wr.grownBy w6 none/\Seg w6 (.slice f3 l3 q3) (callForm xs)):=⟨grown_trans G1.out hg,ho.seg⟩
     clear hg ho hl3
     go_wp2_with fail
     refine hK.out _ _ (fun _=>G2.out.1) ?_
     clear hK K
     have m3:(convert 30 9 (.slice f3 l3 q3)).run Tryz.prog w6=.ok (.string ⟨(callForm xs).toArray⟩) w6:=seg_str G2.out.2
     try simp only [pN]
     refine wpHold_one (i:=10) rfl (by kernel_rfl) (by rfl) (fun K hK=>?_)
     go_wp2_with fail
     refine hK.out _ _ (fun _=>G2.out.1) ?_
     clear hK K
     clear m3
     try simp only [pN]
     have J:Idx [13,14]:=trivial
     iterate 2 (refine tK J (G2.out.1) rfl rfl (fun wk hk=>by obtain ⟨m0,m1,m2⟩:=HC.out wk hk;go_simp;try rfl) ?_;replace J:=J.tl;try simp only [pN])
     clear J
     refine wpHold_done (by kernel_rfl) ?_
     refine (‹∀(a:Act) (w:World),Code.wp Tryz.prog _ _ a w->_› _ _ ?_)
     have gg:wr.grownBy w6 none:=G2.out.1
     have E1:Hid (Blk w6 w.heap.size 26 #[.slice none 0 0]/\w.grownBy w6 none/\OpsOwn w6 w.heap.size (.slice xa na ya) xs/\Blk w6 (w.heap.size+1+1+1) 26 #[.slice xa na ya]):=⟨HO2.out.2.1.grown gg (by simp),grown_trans HO2.out.2.2.2.2 gg,HO2.out.1.grown gg,HO2.out.2.2.1.grown gg (by simp)⟩
     clear gg
     have cc:=E1.out.1.cell 0
     have zz:=E1.out.1.free 0
     have c3:=E1.out.2.2.2.cell 0
     have cs:=(E1.out.1.store 0 (.slice xa na ya)).cell 0
     go_wp2_with fail
     refine bodyPost_ret (v:=.tuple #[.agg #[.slice xa na ya],.int .i64 0]) (by simp [results,Tryz.results42,go_sem,cs]) rfl ?_
     rw [HYES.out]
     exact ⟨_,rfl,E1.out.2.2.1.set E1.out.1 (by decide) (by decide) (grown_setCell _ _ _ _),grown_new E1.out.2.1 (grown_setCell _ _ _ _) (fun y hy=>by simp at hy;omega)⟩
    have HNO:Hid (readC L=([],4)):=by
     unfold Hid readC
     rw [HL.out,if_pos hb]
     cases hp:pCall L with
     | none=>rfl
     | some l =>
      exfalso
      obtain ⟨q1,q2⟩:=pCall_iff.1 hp
      obtain ⟨q3,q4⟩:=HE.out l q1 q2
      exact hyes ⟨q3,by rw [q4];exact q1,by rw [q4];exact q2.symm⟩
    cases b
    case false =>
     clear hyes
     go_wp2_with fail
     refine wp_region_noPanic ?_
     refine wp_region_hold 1000 (fun x=>wr.grownBy x none) (by kernel_rfl) ?_
     have G0:Hid (wr.grownBy wr.drew none):=grown_drew _ _
     generalize wr.drew=w4 at G0 ⊢
     have J:Idx [0,1,2]:=trivial
     iterate 3 (refine tK J (G0.out) rfl rfl (fun wk hk=>by obtain ⟨m0,m1,m2⟩:=HC.out wk hk;go_simp;try rfl) ?_;replace J:=J.tl;try simp only [pN])
     clear J
     have J:Idx [3,4,5]:=trivial
     iterate 3 (refine sk J (G0.out) rfl rfl ?_;replace J:=J.tl;try simp only [pN])
     clear J
     have J:Idx [6,7]:=trivial
     iterate 2 (refine tK J (G0.out) rfl rfl (fun wk hk=>by obtain ⟨m0,m1,m2⟩:=HC.out wk hk;go_simp;try rfl) ?_;replace J:=J.tl;try simp only [pN])
     clear J
     have J:Idx [8,9,10,11,12,13]:=trivial
     iterate 6 (refine sk J (G0.out) rfl rfl ?_;replace J:=J.tl;try simp only [pN])
     clear J
     refine tK (i:=14) (l':=[]) trivial (G0.out) rfl rfl (fun wk hk=>by obtain ⟨m0,m1,m2⟩:=HC.out wk hk;go_simp;try rfl) ?_
     try simp only [pN]
     refine wpHold_done (by kernel_rfl) ?_
     refine (‹∀(a:Act) (w:World),Code.wp Tryz.prog _ _ a w->_› _ _ ?_)
     have gg:wr.grownBy w4 none:=G0.out
     have E1:Hid (Blk w4 w.heap.size 26 #[.slice none 0 0]/\w.grownBy w4 none):=⟨HO2.out.2.1.grown gg (by simp),grown_trans HO2.out.2.2.2.2 gg⟩
     clear gg
     have cc:=E1.out.1.cell 0
     have zz:=E1.out.1.free 0
     have cs:=(E1.out.1.store 0 (.slice none 0 0)).cell 0
     go_wp2_with fail
     refine bodyPost_ret (v:=.tuple #[.agg #[.slice none 0 0],.int .i64 4]) (by simp [results,Tryz.results42,go_sem,cs]) rfl ?_
     rw [HNO.out]
     exact ⟨_,rfl,⟨lrow_nil _ _,by simp⟩,grown_new E1.out.2 (grown_setCell _ _ _ _) (fun y hy=>by simp at hy;omega)⟩
    cases hmy:mayCall xs
    case false =>
     have HMY:Hid (mayCall xs=false):=hmy
     clear hyes hmy
     go_wp2_with fail
     refine wp_region_noPanic ?_
     refine wp_region_hold 1000 (fun x=>wr.grownBy x none) (by kernel_rfl) ?_
     have G0:Hid (wr.grownBy wr.drew none):=grown_drew _ _
     generalize wr.drew=w4 at G0 ⊢
     have J:Idx [0,1,2,3]:=trivial
     iterate 4 (refine tK J (G0.out) rfl rfl (fun wk hk=>by obtain ⟨m0,m1,m2⟩:=HC.out wk hk;go_simp;try rfl) ?_;replace J:=J.tl;try simp only [pN])
     clear J
     refine wpHold_one (i:=4) rfl (by kernel_rfl) (by rfl) (fun K hK=>?_)
     go_wp2_with (go_at_call 68;refine (may37 _ xs _ (HO2.out.1.ops.grown G0.out)).mono ?_)
     rintro e w5 ⟨rfl,hg⟩
     rw [HMY.out]
     have G1:Hid (wr.grownBy w5 none):=grown_trans G0.out hg
     clear hg
     go_wp2_with fail
     refine hK.out _ _ (fun _=>G1.out) ?_
     clear hK K
     try simp only [pN]
     have J:Idx [5,6,7]:=trivial
     iterate 3 (refine tK J (G1.out) rfl rfl (fun wk hk=>by obtain ⟨m0,m1,m2⟩:=HC.out wk hk;go_simp;try rfl) ?_;replace J:=J.tl;try simp only [pN])
     clear J
     have J:Idx [8,9,10,11,12,13]:=trivial
     iterate 6 (refine sk J (G1.out) rfl rfl ?_;replace J:=J.tl;try simp only [pN])
     clear J
     refine tK (i:=14) (l':=[]) trivial (G1.out) rfl rfl (fun wk hk=>by obtain ⟨m0,m1,m2⟩:=HC.out wk hk;go_simp;try rfl) ?_
     try simp only [pN]
     refine wpHold_done (by kernel_rfl) ?_
     refine (‹∀(a:Act) (w:World),Code.wp Tryz.prog _ _ a w->_› _ _ ?_)
     have gg:wr.grownBy w5 none:=G1.out
     have E1:Hid (Blk w5 w.heap.size 26 #[.slice none 0 0]/\w.grownBy w5 none):=⟨HO2.out.2.1.grown gg (by simp),grown_trans HO2.out.2.2.2.2 gg⟩
     clear gg
     have cc:=E1.out.1.cell 0
     have zz:=E1.out.1.free 0
     have cs:=(E1.out.1.store 0 (.slice none 0 0)).cell 0
     go_wp2_with fail
     refine bodyPost_ret (v:=.tuple #[.agg #[.slice none 0 0],.int .i64 4]) (by simp [results,Tryz.results42,go_sem,cs]) rfl ?_
     rw [HNO.out]
     exact ⟨_,rfl,⟨lrow_nil _ _,by simp⟩,grown_new E1.out.2 (grown_setCell _ _ _ _) (fun y hy=>by simp at hy;omega)⟩
    have HMY:Hid (mayCall xs=true):=hmy
    have h6:callForm xs≠L:=fun e=>hyes ⟨rfl,hmy,e⟩
    have e6:(callForm xs==L)=false:=by rw [beq_eq_false_iff_ne];exact h6
    have e7:(callForm xs != L)=true:=by rw [bne_iff_ne];exact h6
    clear hyes hmy h6
    go_wp2_with fail
    refine wp_region_noPanic ?_
    refine wp_region_hold 1000 (fun x=>wr.grownBy x none) (by kernel_rfl) ?_
    have G0:Hid (wr.grownBy wr.drew none):=grown_drew _ _
    generalize wr.drew=w4 at G0 ⊢
    have J:Idx [0,1,2,3]:=trivial
    iterate 4 (refine tK J (G0.out) rfl rfl (fun wk hk=>by obtain ⟨m0,m1,m2⟩:=HC.out wk hk;go_simp;try rfl) ?_;replace J:=J.tl;try simp only [pN])
    clear J
    refine wpHold_one (i:=4) rfl (by kernel_rfl) (by rfl) (fun K hK=>?_)
    go_wp2_with (go_at_call 68;refine (may37 _ xs _ (HO2.out.1.ops.grown G0.out)).mono ?_)
    rintro e w5 ⟨rfl,hg⟩
    rw [HMY.out]
    have G1:Hid (wr.grownBy w5 none):=grown_trans G0.out hg
    clear hg
    go_wp2_with fail
    refine hK.out _ _ (fun _=>G1.out) ?_
    clear hK K
    try simp only [pN]
    have J:Idx [5,6,7,8,11,12]:=trivial
    iterate 6 (refine tK J (G1.out) rfl rfl (fun wk hk=>by obtain ⟨m0,m1,m2⟩:=HC.out wk hk;go_simp;try rfl) ?_;replace J:=J.tl;try simp only [pN])
    clear J
    refine wpHold_one (i:=9) rfl (by kernel_rfl) (by rfl) (fun K hK=>?_)
    go_wp2_with (go_at_call 40;refine (form20 _ xs _ (HO2.out.1.ops.grown G1.out) HMY.out).mono ?_)
    rintro e w6 ⟨u3,rfl,ho,hg⟩
    obtain ⟨f3,q3,e3⟩:=ho.seg.shape
    obtain ⟨l3,hl3⟩:∃l,(callForm xs).length=l:=⟨_,rfl⟩
    rw [hl3] at e3
    subst e3
    have G2:Hid (wr.grownBy w6 none/\Seg w6 (.slice f3 l3 q3) (callForm xs)):=⟨grown_trans G1.out hg,ho.seg⟩
    clear hg ho hl3
    go_wp2_with fail
    refine hK.out _ _ (fun _=>G2.out.1) ?_
    clear hK K
    have m3:(convert 30 9 (.slice f3 l3 q3)).run Tryz.prog w6=.ok (.string ⟨(callForm xs).toArray⟩) w6:=seg_str G2.out.2
    try simp only [pN]
    refine wpHold_one (i:=10) rfl (by kernel_rfl) (by rfl) (fun K hK=>?_)
    go_wp2_with fail
    refine hK.out _ _ (fun _=>G2.out.1) ?_
    clear hK K
    clear m3
    try simp only [pN]
    have J:Idx [13,14]:=trivial
    iterate 2 (refine tK J (G2.out.1) rfl rfl (fun wk hk=>by obtain ⟨m0,m1,m2⟩:=HC.out wk hk;go_simp;try rfl) ?_;replace J:=J.tl;try simp only [pN])
    clear J
    refine wpHold_done (by kernel_rfl) ?_
    refine (‹∀(a:Act) (w:World),Code.wp Tryz.prog _ _ a w->_› _ _ ?_)
    have gg:wr.grownBy w6 none:=G2.out.1
    have E1:Hid (Blk w6 w.heap.size 26 #[.slice none 0 0]/\w.grownBy w6 none):=⟨HO2.out.2.1.grown gg (by simp),grown_trans HO2.out.2.2.2.2 gg⟩
    clear gg
    have cc:=E1.out.1.cell 0
    have zz:=E1.out.1.free 0
    have cs:=(E1.out.1.store 0 (.slice none 0 0)).cell 0
    go_wp2_with fail
    refine bodyPost_ret (v:=.tuple #[.agg #[.slice none 0 0],.int .i64 4]) (by simp [results,Tryz.results42,go_sem,cs]) rfl ?_
    rw [HNO.out]
    exact ⟨_,rfl,⟨lrow_nil _ _,by simp⟩,grown_new E1.out.2 (grown_setCell _ _ _ _) (fun y hy=>by simp at hy;omega)⟩
   case inr.inl =>
    have i2:(k:Int)<(n:Int):=by omega
    have i3:((k:Int)<=16)=False:=eq_false (by omega)
    go_upto_region 11 with fail
    clear co i2
    have HC:Hid (∀x:World,wr.grownBy x none->x.cell? ⟨(w.heap.size+1+1),0,none⟩=some (.bool b)/\x.cell? ⟨(w.heap.size+1+1+1),0,none⟩=some (.slice xa na ya)/\(convert 30 9 (.slice ao m cap)).run Tryz.prog x=.ok (.string ⟨L.toArray⟩) x):=fun x hx=>⟨(HO2.out.2.2.2.1.ok.grown hx (by simp)).cell 0,(HO2.out.2.2.1.grown hx (by simp)).cell 0,seg_str (HS.out.grown (grown_trans HO2.out.2.2.2.2 hx))⟩
    by_cases hyes:b=true/\mayCall xs=true/\callForm xs=L
    case pos =>
     have HYES:Hid (readC L=(xs,0)):=by
      unfold Hid readC
      rw [HL.out,if_pos hb,pCall_iff.2 ⟨hyes.2.1,hyes.2.2.symm⟩]
     obtain ⟨rfl,h5,h6⟩:=hyes
     have HMY:Hid (mayCall xs=true):=h5
     have e6:(callForm xs==L)=true:=by rw [h6];simp
     have e7:(callForm xs != L)=false:=by rw [h6];simp
     clear h5 h6
     go_wp2_with fail
     refine wp_region_noPanic ?_
     refine wp_region_hold 1000 (fun x=>wr.grownBy x none) (by kernel_rfl) ?_
     have G0:Hid (wr.grownBy wr.drew none):=grown_drew _ _
     generalize wr.drew=w4 at G0 ⊢
     have J:Idx [0,1,2,3]:=trivial
     iterate 4 (refine tK J (G0.out) rfl rfl (fun wk hk=>by obtain ⟨m0,m1,m2⟩:=HC.out wk hk;go_simp;try rfl) ?_;replace J:=J.tl;try simp only [pN])
     clear J
     refine wpHold_one (i:=4) rfl (by kernel_rfl) (by rfl) (fun K hK=>?_)
     go_wp2_with (go_at_call 68;refine (may37 _ xs _ (HO2.out.1.ops.grown G0.out)).mono ?_)
     rintro e w5 ⟨rfl,hg⟩
     rw [HMY.out]
     have G1:Hid (wr.grownBy w5 none):=grown_trans G0.out hg
     clear hg
     go_wp2_with fail
     refine hK.out _ _ (fun _=>G1.out) ?_
     clear hK K
     try simp only [pN]
     have J:Idx [5,6,7,8,11,12]:=trivial
     iterate 6 (refine tK J (G1.out) rfl rfl (fun wk hk=>by obtain ⟨m0,m1,m2⟩:=HC.out wk hk;go_simp;try rfl) ?_;replace J:=J.tl;try simp only [pN])
     clear J
     refine wpHold_one (i:=9) rfl (by kernel_rfl) (by rfl) (fun K hK=>?_)
     go_wp2_with (go_at_call 40;refine (form20 _ xs _ (HO2.out.1.ops.grown G1.out) HMY.out).mono ?_)
     rintro e w6 ⟨u3,rfl,ho,hg⟩
     obtain ⟨f3,q3,e3⟩:=ho.seg.shape
     obtain ⟨l3,hl3⟩:∃l,(callForm xs).length=l:=⟨_,rfl⟩
     rw [hl3] at e3
     subst e3
     have G2:Hid (wr.grownBy w6 none/\Seg w6 (.slice f3 l3 q3) (callForm xs)):=⟨grown_trans G1.out hg,ho.seg⟩
     clear hg ho hl3
     go_wp2_with fail
     refine hK.out _ _ (fun _=>G2.out.1) ?_
     clear hK K
     have m3:(convert 30 9 (.slice f3 l3 q3)).run Tryz.prog w6=.ok (.string ⟨(callForm xs).toArray⟩) w6:=seg_str G2.out.2
     try simp only [pN]
     refine wpHold_one (i:=10) rfl (by kernel_rfl) (by rfl) (fun K hK=>?_)
     go_wp2_with fail
     refine hK.out _ _ (fun _=>G2.out.1) ?_
     clear hK K
     clear m3
     try simp only [pN]
     have J:Idx [13,14]:=trivial
     iterate 2 (refine tK J (G2.out.1) rfl rfl (fun wk hk=>by obtain ⟨m0,m1,m2⟩:=HC.out wk hk;go_simp;try rfl) ?_;replace J:=J.tl;try simp only [pN])
     clear J
     refine wpHold_done (by kernel_rfl) ?_
     refine (‹∀(a:Act) (w:World),Code.wp Tryz.prog _ _ a w->_› _ _ ?_)
     have gg:wr.grownBy w6 none:=G2.out.1
     have E1:Hid (Blk w6 w.heap.size 26 #[.slice none 0 0]/\w.grownBy w6 none/\OpsOwn w6 w.heap.size (.slice xa na ya) xs/\Blk w6 (w.heap.size+1+1+1) 26 #[.slice xa na ya]):=⟨HO2.out.2.1.grown gg (by simp),grown_trans HO2.out.2.2.2.2 gg,HO2.out.1.grown gg,HO2.out.2.2.1.grown gg (by simp)⟩
     clear gg
     have cc:=E1.out.1.cell 0
     have zz:=E1.out.1.free 0
     have c3:=E1.out.2.2.2.cell 0
     have cs:=(E1.out.1.store 0 (.slice xa na ya)).cell 0
     go_wp2_with fail
     refine bodyPost_ret (v:=.tuple #[.agg #[.slice xa na ya],.int .i64 0]) (by simp [results,Tryz.results42,go_sem,cs]) rfl ?_
     rw [HYES.out]
     exact ⟨_,rfl,E1.out.2.2.1.set E1.out.1 (by decide) (by decide) (grown_setCell _ _ _ _),grown_new E1.out.2.1 (grown_setCell _ _ _ _) (fun y hy=>by simp at hy;omega)⟩
    have HNO:Hid (readC L=([],4)):=by
     unfold Hid readC
     rw [HL.out,if_pos hb]
     cases hp:pCall L with
     | none=>rfl
     | some l =>
      exfalso
      obtain ⟨q1,q2⟩:=pCall_iff.1 hp
      obtain ⟨q3,q4⟩:=HE.out l q1 q2
      exact hyes ⟨q3,by rw [q4];exact q1,by rw [q4];exact q2.symm⟩
    cases b
    case false =>
     clear hyes
     go_wp2_with fail
     refine wp_region_noPanic ?_
     refine wp_region_hold 1000 (fun x=>wr.grownBy x none) (by kernel_rfl) ?_
     have G0:Hid (wr.grownBy wr.drew none):=grown_drew _ _
     generalize wr.drew=w4 at G0 ⊢
     have J:Idx [0,1,2]:=trivial
     iterate 3 (refine tK J (G0.out) rfl rfl (fun wk hk=>by obtain ⟨m0,m1,m2⟩:=HC.out wk hk;go_simp;try rfl) ?_;replace J:=J.tl;try simp only [pN])
     clear J
     have J:Idx [3,4,5]:=trivial
     iterate 3 (refine sk J (G0.out) rfl rfl ?_;replace J:=J.tl;try simp only [pN])
     clear J
     have J:Idx [6,7]:=trivial
     iterate 2 (refine tK J (G0.out) rfl rfl (fun wk hk=>by obtain ⟨m0,m1,m2⟩:=HC.out wk hk;go_simp;try rfl) ?_;replace J:=J.tl;try simp only [pN])
     clear J
     have J:Idx [8,9,10,11,12,13]:=trivial
     iterate 6 (refine sk J (G0.out) rfl rfl ?_;replace J:=J.tl;try simp only [pN])
     clear J
     refine tK (i:=14) (l':=[]) trivial (G0.out) rfl rfl (fun wk hk=>by obtain ⟨m0,m1,m2⟩:=HC.out wk hk;go_simp;try rfl) ?_
     try simp only [pN]
     refine wpHold_done (by kernel_rfl) ?_
     refine (‹∀(a:Act) (w:World),Code.wp Tryz.prog _ _ a w->_› _ _ ?_)
     have gg:wr.grownBy w4 none:=G0.out
     have E1:Hid (Blk w4 w.heap.size 26 #[.slice none 0 0]/\w.grownBy w4 none):=⟨HO2.out.2.1.grown gg (by simp),grown_trans HO2.out.2.2.2.2 gg⟩
     clear gg
     have cc:=E1.out.1.cell 0
     have zz:=E1.out.1.free 0
     have cs:=(E1.out.1.store 0 (.slice none 0 0)).cell 0
     go_wp2_with fail
     refine bodyPost_ret (v:=.tuple #[.agg #[.slice none 0 0],.int .i64 4]) (by simp [results,Tryz.results42,go_sem,cs]) rfl ?_
     rw [HNO.out]
     exact ⟨_,rfl,⟨lrow_nil _ _,by simp⟩,grown_new E1.out.2 (grown_setCell _ _ _ _) (fun y hy=>by simp at hy;omega)⟩
    cases hmy:mayCall xs
    case false =>
     have HMY:Hid (mayCall xs=false):=hmy
     clear hyes hmy
     go_wp2_with fail
     refine wp_region_noPanic ?_
     refine wp_region_hold 1000 (fun x=>wr.grownBy x none) (by kernel_rfl) ?_
     have G0:Hid (wr.grownBy wr.drew none):=grown_drew _ _
     generalize wr.drew=w4 at G0 ⊢
     have J:Idx [0,1,2,3]:=trivial
     iterate 4 (refine tK J (G0.out) rfl rfl (fun wk hk=>by obtain ⟨m0,m1,m2⟩:=HC.out wk hk;go_simp;try rfl) ?_;replace J:=J.tl;try simp only [pN])
     clear J
     refine wpHold_one (i:=4) rfl (by kernel_rfl) (by rfl) (fun K hK=>?_)
     go_wp2_with (go_at_call 68;refine (may37 _ xs _ (HO2.out.1.ops.grown G0.out)).mono ?_)
     rintro e w5 ⟨rfl,hg⟩
     rw [HMY.out]
     have G1:Hid (wr.grownBy w5 none):=grown_trans G0.out hg
     clear hg
     go_wp2_with fail
     refine hK.out _ _ (fun _=>G1.out) ?_
     clear hK K
     try simp only [pN]
     have J:Idx [5,6,7]:=trivial
     iterate 3 (refine tK J (G1.out) rfl rfl (fun wk hk=>by obtain ⟨m0,m1,m2⟩:=HC.out wk hk;go_simp;try rfl) ?_;replace J:=J.tl;try simp only [pN])
     clear J
     have J:Idx [8,9,10,11,12,13]:=trivial
     iterate 6 (refine sk J (G1.out) rfl rfl ?_;replace J:=J.tl;try simp only [pN])
     clear J
     refine tK (i:=14) (l':=[]) trivial (G1.out) rfl rfl (fun wk hk=>by obtain ⟨m0,m1,m2⟩:=HC.out wk hk;go_simp;try rfl) ?_
     try simp only [pN]
     refine wpHold_done (by kernel_rfl) ?_
     refine (‹∀(a:Act) (w:World),Code.wp Tryz.prog _ _ a w->_› _ _ ?_)
     have gg:wr.grownBy w5 none:=G1.out
     have E1:Hid (Blk w5 w.heap.size 26 #[.slice none 0 0]/\w.grownBy w5 none):=⟨HO2.out.2.1.grown gg (by simp),grown_trans HO2.out.2.2.2.2 gg⟩
     clear gg
     have cc:=E1.out.1.cell 0
     have zz:=E1.out.1.free 0
     have cs:=(E1.out.1.store 0 (.slice none 0 0)).cell 0
     go_wp2_with fail
     refine bodyPost_ret (v:=.tuple #[.agg #[.slice none 0 0],.int .i64 4]) (by simp [results,Tryz.results42,go_sem,cs]) rfl ?_
     rw [HNO.out]
     exact ⟨_,rfl,⟨lrow_nil _ _,by simp⟩,grown_new E1.out.2 (grown_setCell _ _ _ _) (fun y hy=>by simp at hy;omega)⟩
    have HMY:Hid (mayCall xs=true):=hmy
    have h6:callForm xs≠L:=fun e=>hyes ⟨rfl,hmy,e⟩
    have e6:(callForm xs==L)=false:=by rw [beq_eq_false_iff_ne];exact h6
    have e7:(callForm xs != L)=true:=by rw [bne_iff_ne];exact h6
    clear hyes hmy h6
    go_wp2_with fail
    refine wp_region_noPanic ?_
    refine wp_region_hold 1000 (fun x=>wr.grownBy x none) (by kernel_rfl) ?_
    have G0:Hid (wr.grownBy wr.drew none):=grown_drew _ _
    generalize wr.drew=w4 at G0 ⊢
    have J:Idx [0,1,2,3]:=trivial
    iterate 4 (refine tK J (G0.out) rfl rfl (fun wk hk=>by obtain ⟨m0,m1,m2⟩:=HC.out wk hk;go_simp;try rfl) ?_;replace J:=J.tl;try simp only [pN])
    clear J
    refine wpHold_one (i:=4) rfl (by kernel_rfl) (by rfl) (fun K hK=>?_)
    go_wp2_with (go_at_call 68;refine (may37 _ xs _ (HO2.out.1.ops.grown G0.out)).mono ?_)
    rintro e w5 ⟨rfl,hg⟩
    rw [HMY.out]
    have G1:Hid (wr.grownBy w5 none):=grown_trans G0.out hg
    clear hg
    go_wp2_with fail
    refine hK.out _ _ (fun _=>G1.out) ?_
    clear hK K
    try simp only [pN]
    have J:Idx [5,6,7,8,11,12]:=trivial
    iterate 6 (refine tK J (G1.out) rfl rfl (fun wk hk=>by obtain ⟨m0,m1,m2⟩:=HC.out wk hk;go_simp;try rfl) ?_;replace J:=J.tl;try simp only [pN])
    clear J
    refine wpHold_one (i:=9) rfl (by kernel_rfl) (by rfl) (fun K hK=>?_)
    go_wp2_with (go_at_call 40;refine (form20 _ xs _ (HO2.out.1.ops.grown G1.out) HMY.out).mono ?_)
    rintro e w6 ⟨u3,rfl,ho,hg⟩
    obtain ⟨f3,q3,e3⟩:=ho.seg.shape
    obtain ⟨l3,hl3⟩:∃l,(callForm xs).length=l:=⟨_,rfl⟩
    rw [hl3] at e3
    subst e3
    have G2:Hid (wr.grownBy w6 none/\Seg w6 (.slice f3 l3 q3) (callForm xs)):=⟨grown_trans G1.out hg,ho.seg⟩
    clear hg ho hl3
    go_wp2_with fail
    refine hK.out _ _ (fun _=>G2.out.1) ?_
    clear hK K
    have m3:(convert 30 9 (.slice f3 l3 q3)).run Tryz.prog w6=.ok (.string ⟨(callForm xs).toArray⟩) w6:=seg_str G2.out.2
    try simp only [pN]
    refine wpHold_one (i:=10) rfl (by kernel_rfl) (by rfl) (fun K hK=>?_)
    go_wp2_with fail
    refine hK.out _ _ (fun _=>G2.out.1) ?_
    clear hK K
    clear m3
    try simp only [pN]
    have J:Idx [13,14]:=trivial
    iterate 2 (refine tK J (G2.out.1) rfl rfl (fun wk hk=>by obtain ⟨m0,m1,m2⟩:=HC.out wk hk;go_simp;try rfl) ?_;replace J:=J.tl;try simp only [pN])
    clear J
    refine wpHold_done (by kernel_rfl) ?_
    refine (‹∀(a:Act) (w:World),Code.wp Tryz.prog _ _ a w->_› _ _ ?_)
    have gg:wr.grownBy w6 none:=G2.out.1
    have E1:Hid (Blk w6 w.heap.size 26 #[.slice none 0 0]/\w.grownBy w6 none):=⟨HO2.out.2.1.grown gg (by simp),grown_trans HO2.out.2.2.2.2 gg⟩
    clear gg
    have cc:=E1.out.1.cell 0
    have zz:=E1.out.1.free 0
    have cs:=(E1.out.1.store 0 (.slice none 0 0)).cell 0
    go_wp2_with fail
    refine bodyPost_ret (v:=.tuple #[.agg #[.slice none 0 0],.int .i64 4]) (by simp [results,Tryz.results42,go_sem,cs]) rfl ?_
    rw [HNO.out]
    exact ⟨_,rfl,⟨lrow_nil _ _,by simp⟩,grown_new E1.out.2 (grown_setCell _ _ _ _) (fun y hy=>by simp at hy;omega)⟩
   case inr.inr =>
    have i2:((k:Int)<(n:Int))=False:=eq_false (by omega)
    go_upto_region 11 with fail
    clear co i2
    have HC:Hid (∀x:World,wr.grownBy x none->x.cell? ⟨(w.heap.size+1+1),0,none⟩=some (.bool b)/\x.cell? ⟨(w.heap.size+1+1+1),0,none⟩=some (.slice xa na ya)/\(convert 30 9 (.slice ao m cap)).run Tryz.prog x=.ok (.string ⟨L.toArray⟩) x):=fun x hx=>⟨(HO2.out.2.2.2.1.ok.grown hx (by simp)).cell 0,(HO2.out.2.2.1.grown hx (by simp)).cell 0,seg_str (HS.out.grown (grown_trans HO2.out.2.2.2.2 hx))⟩
    by_cases hyes:b=true/\mayCall xs=true/\callForm xs=L
    case pos =>
     have HYES:Hid (readC L=(xs,0)):=by
      unfold Hid readC
      rw [HL.out,if_pos hb,pCall_iff.2 ⟨hyes.2.1,hyes.2.2.symm⟩]
     obtain ⟨rfl,h5,h6⟩:=hyes
     have HMY:Hid (mayCall xs=true):=h5
     have e6:(callForm xs==L)=true:=by rw [h6];simp
     have e7:(callForm xs != L)=false:=by rw [h6];simp
     clear h5 h6
     go_wp2_with fail
     refine wp_region_noPanic ?_
     refine wp_region_hold 1000 (fun x=>wr.grownBy x none) (by kernel_rfl) ?_
     have G0:Hid (wr.grownBy wr.drew none):=grown_drew _ _
     generalize wr.drew=w4 at G0 ⊢
     have J:Idx [0,1,2,3]:=trivial
     iterate 4 (refine tK J (G0.out) rfl rfl (fun wk hk=>by obtain ⟨m0,m1,m2⟩:=HC.out wk hk;go_simp;try rfl) ?_;replace J:=J.tl;try simp only [pN])
     clear J
     refine wpHold_one (i:=4) rfl (by kernel_rfl) (by rfl) (fun K hK=>?_)
     go_wp2_with (go_at_call 68;refine (may37 _ xs _ (HO2.out.1.ops.grown G0.out)).mono ?_)
     rintro e w5 ⟨rfl,hg⟩
     rw [HMY.out]
     have G1:Hid (wr.grownBy w5 none):=grown_trans G0.out hg
     clear hg
     go_wp2_with fail
     refine hK.out _ _ (fun _=>G1.out) ?_
     clear hK K
     try simp only [pN]
     have J:Idx [5,6,7,8,11,12]:=trivial
     iterate 6 (refine tK J (G1.out) rfl rfl (fun wk hk=>by obtain ⟨m0,m1,m2⟩:=HC.out wk hk;go_simp;try rfl) ?_;replace J:=J.tl;try simp only [pN])
     clear J
     refine wpHold_one (i:=9) rfl (by kernel_rfl) (by rfl) (fun K hK=>?_)
     go_wp2_with (go_at_call 40;refine (form20 _ xs _ (HO2.out.1.ops.grown G1.out) HMY.out).mono ?_)
     rintro e w6 ⟨u3,rfl,ho,hg⟩
     obtain ⟨f3,q3,e3⟩:=ho.seg.shape
     obtain ⟨l3,hl3⟩:∃l,(callForm xs).length=l:=⟨_,rfl⟩
     rw [hl3] at e3
     subst e3
     have G2:Hid (wr.grownBy w6 none/\Seg w6 (.slice f3 l3 q3) (callForm xs)):=⟨grown_trans G1.out hg,ho.seg⟩
     clear hg ho hl3
     go_wp2_with fail
     refine hK.out _ _ (fun _=>G2.out.1) ?_
     clear hK K
     have m3:(convert 30 9 (.slice f3 l3 q3)).run Tryz.prog w6=.ok (.string ⟨(callForm xs).toArray⟩) w6:=seg_str G2.out.2
     try simp only [pN]
     refine wpHold_one (i:=10) rfl (by kernel_rfl) (by rfl) (fun K hK=>?_)
     go_wp2_with fail
     refine hK.out _ _ (fun _=>G2.out.1) ?_
     clear hK K
     clear m3
     try simp only [pN]
     have J:Idx [13,14]:=trivial
     iterate 2 (refine tK J (G2.out.1) rfl rfl (fun wk hk=>by obtain ⟨m0,m1,m2⟩:=HC.out wk hk;go_simp;try rfl) ?_;replace J:=J.tl;try simp only [pN])
     clear J
     refine wpHold_done (by kernel_rfl) ?_
     refine (‹∀(a:Act) (w:World),Code.wp Tryz.prog _ _ a w->_› _ _ ?_)
     have gg:wr.grownBy w6 none:=G2.out.1
     have E1:Hid (Blk w6 w.heap.size 26 #[.slice none 0 0]/\w.grownBy w6 none/\OpsOwn w6 w.heap.size (.slice xa na ya) xs/\Blk w6 (w.heap.size+1+1+1) 26 #[.slice xa na ya]):=⟨HO2.out.2.1.grown gg (by simp),grown_trans HO2.out.2.2.2.2 gg,HO2.out.1.grown gg,HO2.out.2.2.1.grown gg (by simp)⟩
     clear gg
     have cc:=E1.out.1.cell 0
     have zz:=E1.out.1.free 0
     have c3:=E1.out.2.2.2.cell 0
     have cs:=(E1.out.1.store 0 (.slice xa na ya)).cell 0
     go_wp2_with fail
     refine bodyPost_ret (v:=.tuple #[.agg #[.slice xa na ya],.int .i64 0]) (by simp [results,Tryz.results42,go_sem,cs]) rfl ?_
     rw [HYES.out]
     exact ⟨_,rfl,E1.out.2.2.1.set E1.out.1 (by decide) (by decide) (grown_setCell _ _ _ _),grown_new E1.out.2.1 (grown_setCell _ _ _ _) (fun y hy=>by simp at hy;omega)⟩
    have HNO:Hid (readC L=([],4)):=by
     unfold Hid readC
     rw [HL.out,if_pos hb]
     cases hp:pCall L with
     | none=>rfl
     | some l =>
      exfalso
      obtain ⟨q1,q2⟩:=pCall_iff.1 hp
      obtain ⟨q3,q4⟩:=HE.out l q1 q2
      exact hyes ⟨q3,by rw [q4];exact q1,by rw [q4];exact q2.symm⟩
    cases b
    case false =>
     clear hyes
     go_wp2_with fail
     refine wp_region_noPanic ?_
     refine wp_region_hold 1000 (fun x=>wr.grownBy x none) (by kernel_rfl) ?_
     have G0:Hid (wr.grownBy wr.drew none):=grown_drew _ _
     generalize wr.drew=w4 at G0 ⊢
     have J:Idx [0,1,2]:=trivial
     iterate 3 (refine tK J (G0.out) rfl rfl (fun wk hk=>by obtain ⟨m0,m1,m2⟩:=HC.out wk hk;go_simp;try rfl) ?_;replace J:=J.tl;try simp only [pN])
     clear J
     have J:Idx [3,4,5]:=trivial
     iterate 3 (refine sk J (G0.out) rfl rfl ?_;replace J:=J.tl;try simp only [pN])
     clear J
     have J:Idx [6,7]:=trivial
     iterate 2 (refine tK J (G0.out) rfl rfl (fun wk hk=>by obtain ⟨m0,m1,m2⟩:=HC.out wk hk;go_simp;try rfl) ?_;replace J:=J.tl;try simp only [pN])
     clear J
     have J:Idx [8,9,10,11,12,13]:=trivial
     iterate 6 (refine sk J (G0.out) rfl rfl ?_;replace J:=J.tl;try simp only [pN])
     clear J
     refine tK (i:=14) (l':=[]) trivial (G0.out) rfl rfl (fun wk hk=>by obtain ⟨m0,m1,m2⟩:=HC.out wk hk;go_simp;try rfl) ?_
     try simp only [pN]
     refine wpHold_done (by kernel_rfl) ?_
     refine (‹∀(a:Act) (w:World),Code.wp Tryz.prog _ _ a w->_› _ _ ?_)
     have gg:wr.grownBy w4 none:=G0.out
     have E1:Hid (Blk w4 w.heap.size 26 #[.slice none 0 0]/\w.grownBy w4 none):=⟨HO2.out.2.1.grown gg (by simp),grown_trans HO2.out.2.2.2.2 gg⟩
     clear gg
     have cc:=E1.out.1.cell 0
     have zz:=E1.out.1.free 0
     have cs:=(E1.out.1.store 0 (.slice none 0 0)).cell 0
     go_wp2_with fail
     refine bodyPost_ret (v:=.tuple #[.agg #[.slice none 0 0],.int .i64 4]) (by simp [results,Tryz.results42,go_sem,cs]) rfl ?_
     rw [HNO.out]
     exact ⟨_,rfl,⟨lrow_nil _ _,by simp⟩,grown_new E1.out.2 (grown_setCell _ _ _ _) (fun y hy=>by simp at hy;omega)⟩
    cases hmy:mayCall xs
    case false =>
     have HMY:Hid (mayCall xs=false):=hmy
     clear hyes hmy
     go_wp2_with fail
     refine wp_region_noPanic ?_
     refine wp_region_hold 1000 (fun x=>wr.grownBy x none) (by kernel_rfl) ?_
     have G0:Hid (wr.grownBy wr.drew none):=grown_drew _ _
     generalize wr.drew=w4 at G0 ⊢
     have J:Idx [0,1,2,3]:=trivial
     iterate 4 (refine tK J (G0.out) rfl rfl (fun wk hk=>by obtain ⟨m0,m1,m2⟩:=HC.out wk hk;go_simp;try rfl) ?_;replace J:=J.tl;try simp only [pN])
     clear J
     refine wpHold_one (i:=4) rfl (by kernel_rfl) (by rfl) (fun K hK=>?_)
     go_wp2_with (go_at_call 68;refine (may37 _ xs _ (HO2.out.1.ops.grown G0.out)).mono ?_)
     rintro e w5 ⟨rfl,hg⟩
     rw [HMY.out]
     have G1:Hid (wr.grownBy w5 none):=grown_trans G0.out hg
     clear hg
     go_wp2_with fail
     refine hK.out _ _ (fun _=>G1.out) ?_
     clear hK K
     try simp only [pN]
     have J:Idx [5,6,7]:=trivial
     iterate 3 (refine tK J (G1.out) rfl rfl (fun wk hk=>by obtain ⟨m0,m1,m2⟩:=HC.out wk hk;go_simp;try rfl) ?_;replace J:=J.tl;try simp only [pN])
     clear J
     have J:Idx [8,9,10,11,12,13]:=trivial
     iterate 6 (refine sk J (G1.out) rfl rfl ?_;replace J:=J.tl;try simp only [pN])
     clear J
     refine tK (i:=14) (l':=[]) trivial (G1.out) rfl rfl (fun wk hk=>by obtain ⟨m0,m1,m2⟩:=HC.out wk hk;go_simp;try rfl) ?_
     try simp only [pN]
     refine wpHold_done (by kernel_rfl) ?_
     refine (‹∀(a:Act) (w:World),Code.wp Tryz.prog _ _ a w->_› _ _ ?_)
     have gg:wr.grownBy w5 none:=G1.out
     have E1:Hid (Blk w5 w.heap.size 26 #[.slice none 0 0]/\w.grownBy w5 none):=⟨HO2.out.2.1.grown gg (by simp),grown_trans HO2.out.2.2.2.2 gg⟩
     clear gg
     have cc:=E1.out.1.cell 0
     have zz:=E1.out.1.free 0
     have cs:=(E1.out.1.store 0 (.slice none 0 0)).cell 0
     go_wp2_with fail
     refine bodyPost_ret (v:=.tuple #[.agg #[.slice none 0 0],.int .i64 4]) (by simp [results,Tryz.results42,go_sem,cs]) rfl ?_
     rw [HNO.out]
     exact ⟨_,rfl,⟨lrow_nil _ _,by simp⟩,grown_new E1.out.2 (grown_setCell _ _ _ _) (fun y hy=>by simp at hy;omega)⟩
    have HMY:Hid (mayCall xs=true):=hmy
    have h6:callForm xs≠L:=fun e=>hyes ⟨rfl,hmy,e⟩
    have e6:(callForm xs==L)=false:=by rw [beq_eq_false_iff_ne];exact h6
    have e7:(callForm xs != L)=true:=by rw [bne_iff_ne];exact h6
    clear hyes hmy h6
    go_wp2_with fail
    refine wp_region_noPanic ?_
    refine wp_region_hold 1000 (fun x=>wr.grownBy x none) (by kernel_rfl) ?_
    have G0:Hid (wr.grownBy wr.drew none):=grown_drew _ _
    generalize wr.drew=w4 at G0 ⊢
    have J:Idx [0,1,2,3]:=trivial
    iterate 4 (refine tK J (G0.out) rfl rfl (fun wk hk=>by obtain ⟨m0,m1,m2⟩:=HC.out wk hk;go_simp;try rfl) ?_;replace J:=J.tl;try simp only [pN])
    clear J
    refine wpHold_one (i:=4) rfl (by kernel_rfl) (by rfl) (fun K hK=>?_)
    go_wp2_with (go_at_call 68;refine (may37 _ xs _ (HO2.out.1.ops.grown G0.out)).mono ?_)
    rintro e w5 ⟨rfl,hg⟩
    rw [HMY.out]
    have G1:Hid (wr.grownBy w5 none):=grown_trans G0.out hg
    clear hg
    go_wp2_with fail
    refine hK.out _ _ (fun _=>G1.out) ?_
    clear hK K
    try simp only [pN]
    have J:Idx [5,6,7,8,11,12]:=trivial
    iterate 6 (refine tK J (G1.out) rfl rfl (fun wk hk=>by obtain ⟨m0,m1,m2⟩:=HC.out wk hk;go_simp;try rfl) ?_;replace J:=J.tl;try simp only [pN])
    clear J
    refine wpHold_one (i:=9) rfl (by kernel_rfl) (by rfl) (fun K hK=>?_)
    go_wp2_with (go_at_call 40;refine (form20 _ xs _ (HO2.out.1.ops.grown G1.out) HMY.out).mono ?_)
    rintro e w6 ⟨u3,rfl,ho,hg⟩
    obtain ⟨f3,q3,e3⟩:=ho.seg.shape
    obtain ⟨l3,hl3⟩:∃l,(callForm xs).length=l:=⟨_,rfl⟩
    rw [hl3] at e3
    subst e3
    have G2:Hid (wr.grownBy w6 none/\Seg w6 (.slice f3 l3 q3) (callForm xs)):=⟨grown_trans G1.out hg,ho.seg⟩
    clear hg ho hl3
    go_wp2_with fail
    refine hK.out _ _ (fun _=>G2.out.1) ?_
    clear hK K
    have m3:(convert 30 9 (.slice f3 l3 q3)).run Tryz.prog w6=.ok (.string ⟨(callForm xs).toArray⟩) w6:=seg_str G2.out.2
    try simp only [pN]
    refine wpHold_one (i:=10) rfl (by kernel_rfl) (by rfl) (fun K hK=>?_)
    go_wp2_with fail
    refine hK.out _ _ (fun _=>G2.out.1) ?_
    clear hK K
    clear m3
    try simp only [pN]
    have J:Idx [13,14]:=trivial
    iterate 2 (refine tK J (G2.out.1) rfl rfl (fun wk hk=>by obtain ⟨m0,m1,m2⟩:=HC.out wk hk;go_simp;try rfl) ?_;replace J:=J.tl;try simp only [pN])
    clear J
    refine wpHold_done (by kernel_rfl) ?_
    refine (‹∀(a:Act) (w:World),Code.wp Tryz.prog _ _ a w->_› _ _ ?_)
    have gg:wr.grownBy w6 none:=G2.out.1
    have E1:Hid (Blk w6 w.heap.size 26 #[.slice none 0 0]/\w.grownBy w6 none):=⟨HO2.out.2.1.grown gg (by simp),grown_trans HO2.out.2.2.2.2 gg⟩
    clear gg
    have cc:=E1.out.1.cell 0
    have zz:=E1.out.1.free 0
    have cs:=(E1.out.1.store 0 (.slice none 0 0)).cell 0
    go_wp2_with fail
    refine bodyPost_ret (v:=.tuple #[.agg #[.slice none 0 0],.int .i64 4]) (by simp [results,Tryz.results42,go_sem,cs]) rfl ?_
    rw [HNO.out]
    exact ⟨_,rfl,⟨lrow_nil _ _,by simp⟩,grown_new E1.out.2 (grown_setCell _ _ _ _) (fun y hy=>by simp at hy;omega)⟩
end Go.Proofs.YtncbdhdfemidlaaGreat.Calls
