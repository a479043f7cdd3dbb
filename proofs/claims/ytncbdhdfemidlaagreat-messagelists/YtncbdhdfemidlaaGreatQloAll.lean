import Derived.Test.YtncbdhdfemidlaaGreatQjkAll
import Derived.Shelf.Abstract
namespace Go.Proofs.YtncbdhdfemidlaaGreat
open Go.RowKit Disk Table L5
open _root_.Go.Proofs.YtncbdhdfemidlaaGreat.Calls _root_.Go.Proofs.YtncbdhdfemidlaaGreat.Command
namespace L5
def cB:Code->Code | .block _ c=>c | c=>c
def cW:Code->Code | .loop c=>c | c=>c
noncomputable def rnd5:Code:=cW (cB (cR (cL r25)))
noncomputable def g9:Code:=cB (cL (cR rnd5))
theorem r25_eq:r25=.seq (.seq (cL (cL r25)) (.block 8 (.loop rnd5))) (cR r25):=rfl
theorem rnd5_eq:rnd5=.seq (cL rnd5) (.seq (.block 9 g9) (cR (cR rnd5))):=rfl
def mk (s:Nat):Deferred:={ target:=.collected s,args:=#[] }
structure S6 (a:Act)(v2 v3 v4 v7 v8 v10 v12:Value)(ds:List Deferred):Prop where
 size:a.tmps.size=161
 defers:a.defers=ds
 e2:sl a.tmps 2=v2
 e3:sl a.tmps 3=v3
 e4:sl a.tmps 4=v4
 e7:sl a.tmps 7=v7
 e8:sl a.tmps 8=v8
 e10:sl a.tmps 10=v10
 e12:sl a.tmps 12=v12
theorem S6.eq {a:Act}{v2 v3 v4 v7 v8 v10 v12:Value}{ds:List Deferred}(h:S6 a v2 v3 v4 v7 v8 v10 v12 ds):∃t:Array Value,a={ tmps:=#[sl t 0,sl t 1,v2,v3,v4,sl t 5,sl t 6,v7,v8,sl t 9,v10,sl t 11,v12,sl t 13,sl t 14,sl t 15,sl t 16,sl t 17,sl t 18,sl t 19,sl t 20,sl t 21,sl t 22,sl t 23,sl t 24,sl t 25,sl t 26,sl t 27,sl t 28,sl t 29,sl t 30,sl t 31,sl t 32,sl t 33,sl t 34,sl t 35,sl t 36,sl t 37,sl t 38,sl t 39,sl t 40,sl t 41,sl t 42,sl t 43,sl t 44,sl t 45,sl t 46,sl t 47,sl t 48,sl t 49,sl t 50,sl t 51,sl t 52,sl t 53,sl t 54,sl t 55,sl t 56,sl t 57,sl t 58,sl t 59,sl t 60,sl t 61,sl t 62,sl t 63,sl t 64,sl t 65,sl t 66,sl t 67,sl t 68,sl t 69,sl t 70,sl t 71,sl t 72,sl t 73,sl t 74,sl t 75,sl t 76,sl t 77,sl t 78,sl t 79,sl t 80,sl t 81,sl t 82,sl t 83,sl t 84,sl t 85,sl t 86,sl t 87,sl t 88,sl t 89,sl t 90,sl t 91,sl t 92,sl t 93,sl t 94,sl t 95,sl t 96,sl t 97,sl t 98,sl t 99,sl t 100,sl t 101,sl t 102,sl t 103,sl t 104,sl t 105,sl t 106,sl t 107,sl t 108,sl t 109,sl t 110,sl t 111,sl t 112,sl t 113,sl t 114,sl t 115,sl t 116,sl t 117,sl t 118,sl t 119,sl t 120,sl t 121,sl t 122,sl t 123,sl t 124,sl t 125,sl t 126,sl t 127,sl t 128,sl t 129,sl t 130,sl t 131,sl t 132,sl t 133,sl t 134,sl t 135,sl t 136,sl t 137,sl t 138,sl t 139,sl t 140,sl t 141,sl t 142,sl t 143,sl t 144,sl t 145,sl t 146,sl t 147,sl t 148,sl t 149,sl t 150,sl t 151,sl t 152,sl t 153,sl t 154,sl t 155,sl t 156,sl t 157,sl t 158,sl t 159,sl t 160],defers:=ds }:=by
 obtain ⟨t,d⟩:=a
 obtain ⟨h1,h2,h3,h4,h5,h6,h7,h8,h9⟩:=h
 dsimp only at h1 h2 h3 h4 h5 h6 h7 h8 h9
 refine ⟨t,?_⟩
 rw [h2]
 have e:=t161 t h1
 rw [h3,h4,h5,h6,h7,h8,h9] at e
 exact congrArg (fun x=>Act.mk x ds) e
structure GI (w W:World)(x0:Nat)(v:Value)(q:Int)(l:List PMsg)(x8:Nat)(wq:Value)(eb Z E:Nat)(vn:Value):Prop where
 bx:Bx w W x0 v q l
 box:Blk W x8 55 #[wq]
 b8:x0+3<=x8
 e8:x8<E
 row:Net.Row 3 W (x0+3) wq (wv l l.length)
 re:∀k,wq.ownBlock=some k->k<E
 nb:Blk W eb 54 #[vn]
 nz:Z<=eb
 ne:eb<E
 st:Stay Z E W vn (l.map nowM)
 ze:x0+3<=E
theorem DI.over {w W:World}{x0:Nat}{v:Value}{q:Int}{l:List PMsg}{x8:Nat}{wq x7:Value}{zz:List (Nat × Nat × Nat)}{eb Z E:Nat}{vn:Value}(h:DI w W x0 v q l x8 wq x7 zz eb Z E vn):GI w W x0 v q l x8 wq eb Z E vn :=
 ⟨h.bx,h.box,h.b8,by have:=h.z8;have:=h.nz;have:=h.ne;omega,h.row,fun k hk=>by have:=h.rz k hk;have:=h.nz;have:=h.ne;omega,h.nb,h.nz,h.ne,h.st,by have:=h.b8;have:=h.z8;have:=h.nz;have:=h.ne;omega⟩
theorem GI.late {w W W':World}{x0:Nat}{v:Value}{q:Int}{l:List PMsg}{x8:Nat}{wq:Value}{eb Z E:Nat}{vn:Value}(h:GI w W x0 v q l x8 wq eb Z E vn){r:Option Nat}(hg:W.grownBy W' r)(hr:∀k,r=some k->E<=k):GI w W' x0 v q l x8 wq eb Z E vn:=by
 refine ⟨h.bx.but hg fun k hk=>?_,h.box.grown hg fun e=>?_,h.b8,h.e8,h.row.same fun k hk=>hg.block k (h.row.lt k hk).2 fun e=>?_,h.re,h.nb.grown hg fun e=>?_,h.nz,h.ne,h.st.grown (Nat.le_trans h.st.1 hg.size) fun i h1 h2=>hg.block i (Nat.lt_of_lt_of_le h2 h.st.1) fun e=>?_,h.ze⟩
 ·have:=hr k hk;have:=h.ze;omega
 ·have:=hr _ e;have:=h.e8;omega
 ·have:=hr _ e.symm;have:=h.re k hk;omega
 ·have:=hr _ e;have:=h.ne;omega
 ·have:=hr _ e.symm;omega
theorem GI.grown {w W W':World}{x0:Nat}{v:Value}{q:Int}{l:List PMsg}{x8:Nat}{wq:Value}{eb Z E:Nat}{vn:Value}(h:GI w W x0 v q l x8 wq eb Z E vn)(hg:W.grownBy W' none):GI w W' x0 v q l x8 wq eb Z E vn:=h.late hg (by simp)
def Mks (W:World)(E:Nat)(ms:List Nat):Prop:=ms.Pairwise (fun a b=>b<a)/\∀s ∈ ms,E<=s/\W.heap[s]? = some (.deferred (some []))
theorem Mks.late {W W':World}{E:Nat}{ms:List Nat}(h:Mks W E ms){r:Option Nat}(hg:W.grownBy W' r)(hb:∀k,r=some k->∃t c,Blk W k t c):Mks W' E ms:=by
 refine ⟨h.1,fun s hs=>⟨(h.2 s hs).1,?_⟩⟩
 have hm:=(h.2 s hs).2
 refine (hg.block s (Array.getElem?_eq_some_iff.1 hm).1 fun e=>?_).trans hm
 obtain ⟨t,c,hc⟩:=hb s e.symm
 unfold Blk at hc
 rw [hm] at hc
 simp at hc
def AfterG (p:Nat)(w:World)(x0:Nat)(v:Value)(q:Int)(l:List PMsg)(x8:Nat)(wq:Value)(eb Z E:Nat)(vn:Value)(v7:Value)(z:Nat)(ms:List Nat)(a:Act)(W:World):Prop:=∃s,S6 a (.pointer (some ⟨x0,0,none⟩)) (.pointer (some ⟨x0+1,0,none⟩)) (.pointer (some ⟨x0+2,0,none⟩)) v7 (.pointer (some ⟨x8,0,none⟩)) (.func (.func 69) #[] #[.pointer (some ⟨eb,0,none⟩)]) (.pointer (some ⟨z,0,none⟩)) ((s :: ms).map mk)/\GI w W x0 v q l x8 wq eb Z E vn/\Blk W z 3 #[.int .i64 (p:Int)]/\Mks W E (s :: ms)
def Goes1:Prop:=∀(p:Nat) (a:Act) (W:World) (w:World) (x0:Nat) (v:Value) (q:Int) (l:List PMsg) (x8:Nat) (wq:Value) (eb Z E:Nat) (vn:Value) (v7:Value) (z:Nat) (ms:List Nat),p<2->S6 a (.pointer (some ⟨x0,0,none⟩)) (.pointer (some ⟨x0+1,0,none⟩)) (.pointer (some ⟨x0+2,0,none⟩)) v7 (.pointer (some ⟨x8,0,none⟩)) (.func (.func 69) #[] #[.pointer (some ⟨eb,0,none⟩)]) (.pointer (some ⟨z,0,none⟩)) (ms.map mk)->GI w W x0 v q l x8 wq eb Z E vn->Blk W z 3 #[.int .i64 (p:Int)]->E<=z->Mks W E ms->(∀m ∈ l,GoodM m) →
 g9.wp Tryz.prog (At5 (AfterG p w x0 v q l x8 wq eb Z E vn v7 z ms)) a W
end L5
end Go.Proofs.YtncbdhdfemidlaaGreat
namespace Go.Proofs.YtncbdhdfemidlaaGreat
open Go.RowKit Disk Table L5
open _root_.Go.Proofs.YtncbdhdfemidlaaGreat.Calls _root_.Go.Proofs.YtncbdhdfemidlaaGreat.Command
namespace L5
theorem okM_zero:okM zeroM=false:=by decide
theorem okM_now (m:PMsg):okM (nowM m)=okM m:=by
 unfold nowM
 by_cases h:okM m=true
 ·rw [if_pos h]
 ·rw [if_neg h,okM_zero]
  simp at h
  exact h.symm
theorem now_ok {m:PMsg}(h:okM m=true):nowM m=m:=by
 unfold nowM
 rw [if_pos h]
theorem good_zero:GoodM zeroM:=⟨inM_zero,⟨by decide,fun o ho=>absurd ho (by simp [zeroM,zeroC])⟩,by decide⟩
theorem good_now {l:List PMsg}(h:∀m ∈ l,GoodM m):∀m ∈ l.map nowM,GoodM m:=by
 intro m hm
 obtain ⟨x,hx,rfl⟩:=List.mem_map.1 hm
 unfold nowM
 by_cases hk:okM x=true
 ·rw [if_pos hk]
  exact h x hx
 ·rw [if_neg hk]
  exact good_zero
theorem wants_over {l:List PMsg}{s p:Nat}(hs:s<=p)(hb:∀i (hi:i<l.length),s<=i->i<p->okM l[i]=false)(hp:p<=l.length):wants l p=wants l s:=by
 induction p with
 | zero=>rw [show s=0 by omega]
 | succ p ih =>
  by_cases e:s=p+1
  ·rw [e]
  ·rw [<-ih (by omega) (fun i hi h1 h2=>hb i hi h1 (by omega)) (by omega)]
   exact wants_skip (List.getElem?_eq_getElem (show p<l.length by omega)) (hb p (by omega) (by omega) (by omega))
theorem wants_pre (l:List PMsg)(i j:Nat):∃r,wants l (i+j)=wants l i ++ r:=by
 induction j with
 | zero=>exact ⟨[],by simp⟩
 | succ j ih =>
  obtain ⟨r,hr⟩:=ih
  unfold wants at hr ⊢
  rw [show i+(j+1)=i+j+1 by omega,List.range_succ,List.filter_append,hr,List.append_assoc]
  exact ⟨_,rfl⟩
theorem wants_at {l:List PMsg}{s p:Nat}(hs:s<=p)(hb:∀i (hi:i<l.length),s<=i->i<p->okM l[i]=false)(hp:p<l.length)(hok:okM l[p]=true) :
  (wants l l.length)[(wants l s).length]? = some p/\(wants l s).length<(wants l l.length).length/\(wants l (p+1)).length=(wants l s).length+1:=by
 have h1:=wants_over hs hb (by omega)
 have h2:wants l (p+1)=wants l s ++ [p]:=by rw [<-h1];exact wants_more (List.getElem?_eq_getElem hp) hok
 obtain ⟨r,hr⟩:=wants_pre l (p+1) (l.length-(p+1))
 rw [show p+1+(l.length-(p+1))=l.length by omega] at hr
 rw [hr,h2]
 refine ⟨by simp,by simp,by simp⟩
theorem wants_fin {l:List PMsg}{s:Nat}(hs:s<=l.length)(h:∀i (hi:i<l.length),s<=i->okM l[i]=false):wants l l.length=wants l s:=wants_over hs (fun i hi h1 _=>h i hi h1) (Nat.le_refl _)
theorem Blk.at {W W':World}{b t:Nat}{c:Array Value}(h:Blk W b t c)(hs:W'.heap[b]? = W.heap[b]?):Blk W' b t c:=hs.trans h
theorem GI.keep {w W W':World}{x0:Nat}{v:Value}{q:Int}{l:List PMsg}{x8:Nat}{wq:Value}{eb Z E:Nat}{vn:Value}(h:GI w W x0 v q l x8 wq eb Z E vn)(hg:w.grownBy W' none)(hz:W.heap.size<=W'.heap.size)(hs:∀i,i<E->W'.heap[i]? = W.heap[i]?):GI w W' x0 v q l x8 wq eb Z E vn:=by
 have hE:=h.ze
 refine ⟨⟨Blk.at h.bx.b0 (hs _ (by omega)),Blk.at h.bx.b1 (hs _ (by omega)),Blk.at h.bx.b2 (hs _ (by omega)),h.bx.lo,hg,by have:=h.bx.big;omega,h.bx.ms,h.bx.good⟩,Blk.at h.box (hs _ h.e8),h.b8,h.e8,h.row.same fun k hk=>hs k (h.re k hk),h.re,Blk.at h.nb (hs _ h.ne),h.nz,h.ne,h.st.grown (Nat.le_trans h.st.1 hz) fun i _ h2=>hs i h2,h.ze⟩
theorem GI.tx {w W W':World}{x0:Nat}{v:Value}{q:Int}{l:List PMsg}{x8:Nat}{wq:Value}{eb Z E:Nat}{vn:Value}{n0:Nat}(h:GI w W x0 v q l x8 wq eb Z E vn)(ht:Tx n0 W W')(hn:E<=n0):GI w W' x0 v q l x8 wq eb Z E vn:=by
 have hg:=h.bx.gr
 have hlo:=h.bx.lo
 have hze:=h.ze
 have hst:=h.st.1
 refine h.keep ⟨ht.os.trans hg.os,ht.tape.trans hg.tape,ht.output.trans hg.output,Nat.le_trans hg.size ht.size,fun i hi _=>(ht.block i (Nat.lt_of_lt_of_le hi hg.size) (.inl (by omega))).trans (hg.block i hi (by simp))⟩ ht.size fun i hi=>ht.block i (by omega) (.inl (by omega))
theorem Mks.keep {W W':World}{E n0:Nat}{ms:List Nat}(h:Mks W E ms)(hn:∀s ∈ ms,s<n0)(ht:Tx n0 W W'):Mks W' E ms:=by
 refine ⟨h.1,fun s hs=>⟨(h.2 s hs).1,?_⟩⟩
 have hm:=(h.2 s hs).2
 exact (ht.block s (Array.getElem?_eq_some_iff.1 hm).1 (.inl (hn s hs))).trans hm
end L5
end Go.Proofs.YtncbdhdfemidlaaGreat
