import Derived.Test.YtanoabliahcbeaaGreatRvyAll
import Derived.Laws.CopyOwn
set_option maxHeartbeats 8000000
set_option maxRecDepth 100000
namespace Go.Proofs.YtanoabliahcbeaaGreat.Wn
open Go.RowKit Disk Table
open _root_.Go.Proofs.YtanoabliahcbeaaGreat.Calls _root_.Go.Proofs.YtanoabliahcbeaaGreat.Command
variable {Q F:Nat->Prop} {w A A':World} {b k:Nat} {s:CS} {cf:PCfg}
noncomputable def b3:Code:=Tryz.f3.body.getD .skip
noncomputable def rnd3:Code:=cW (cB (cR (cL (cR (cR (cR (cR b3)))))))
noncomputable def bd3:Code:=cB (cL (cR rnd3))
noncomputable def rest3:Code:=cR (cR (cR (cR (cR (cR bd3)))))
noncomputable def sw3:Code:=cL rest3
noncomputable def end3:Code:=cR rest3
theorem rnd3_eq:rnd3=.seq (cL rnd3) (.seq (.block 1 bd3) (cR (cR rnd3))):=rfl
theorem bd3_eq:bd3=.seq (cL bd3) (.seq (cL (cR bd3)) (.seq (cL (cR (cR bd3))) (.seq (cL (cR (cR (cR bd3)))) (.seq (cL (cR (cR (cR (cR bd3))))) (.seq (cL (cR (cR (cR (cR (cR bd3)))))) rest3))))):=rfl
theorem rest3_eq:rest3=.seq sw3 end3:=rfl
def row260 (f:Nat->Value):Array Value:=#[f 0,f 1,f 2,f 3,f 4,f 5,f 6,f 7,f 8,f 9,f 10,f 11,f 12,f 13,f 14,f 15,f 16,f 17,f 18,f 19,f 20,f 21,f 22,f 23,f 24,f 25,f 26,f 27,f 28,f 29,f 30,f 31,f 32,f 33,f 34,f 35,f 36,f 37,f 38,f 39,f 40,f 41,f 42,f 43,f 44,f 45,f 46,f 47,f 48,f 49,f 50,f 51,f 52,f 53,f 54,f 55,f 56,f 57,f 58,f 59,f 60,f 61,f 62,f 63,f 64,f 65,f 66,f 67,f 68,f 69,f 70,f 71,f 72,f 73,f 74,f 75,f 76,f 77,f 78,f 79,f 80,f 81,f 82,f 83,f 84,f 85,f 86,f 87,f 88,f 89,f 90,f 91,f 92,f 93,f 94,f 95,f 96,f 97,f 98,f 99,f 100,f 101,f 102,f 103,f 104,f 105,f 106,f 107,f 108,f 109,f 110,f 111,f 112,f 113,f 114,f 115,f 116,f 117,f 118,f 119,f 120,f 121,f 122,f 123,f 124,f 125,f 126,f 127,f 128,f 129,f 130,f 131,f 132,f 133,f 134,f 135,f 136,f 137,f 138,f 139,f 140,f 141,f 142,f 143,f 144,f 145,f 146,f 147,f 148,f 149,f 150,f 151,f 152,f 153,f 154,f 155,f 156,f 157,f 158,f 159,f 160,f 161,f 162,f 163,f 164,f 165,f 166,f 167,f 168,f 169,f 170,f 171,f 172,f 173,f 174,f 175,f 176,f 177,f 178,f 179,f 180,f 181,f 182,f 183,f 184,f 185,f 186,f 187,f 188,f 189,f 190,f 191,f 192,f 193,f 194,f 195,f 196,f 197,f 198,f 199,f 200,f 201,f 202,f 203,f 204,f 205,f 206,f 207,f 208,f 209,f 210,f 211,f 212,f 213,f 214,f 215,f 216,f 217,f 218,f 219,f 220,f 221,f 222,f 223,f 224,f 225,f 226,f 227,f 228,f 229,f 230,f 231,f 232,f 233,f 234,f 235,f 236,f 237,f 238,f 239,f 240,f 241,f 242,f 243,f 244,f 245,f 246,f 247,f 248,f 249,f 250,f 251,f 252,f 253,f 254,f 255,f 256,f 257,f 258,f 259]
theorem t260 (t:Array Value)(h:t.size=260):t=row260 (sl t):=by
 have h1:t.toList=(List.range 260).map (sl t):=by
  apply List.ext_getElem
  ·simp [h]
  ·intro i h1 h2
   simp [sl] at h1 ⊢
   rw [Array.getElem?_eq_getElem h1]
   rfl
 exact Array.toList_inj.1 h1
structure S3 (a:Act)(v0 v2 v7 v9 v10:Value):Prop where
 size:a.tmps.size=260
 defers:a.defers=[]
 e0:sl a.tmps 0=v0
 e2:sl a.tmps 2=v2
 e7:sl a.tmps 7=v7
 e9:sl a.tmps 9=v9
 e10:sl a.tmps 10=v10
theorem S3.eq {a:Act}{v0 v2 v7 v9 v10:Value}(h:S3 a v0 v2 v7 v9 v10):∃f:Nat->Value,f 0=v0/\f 2=v2/\f 7=v7/\f 9=v9/\f 10=v10/\a={ tmps:=row260 f,defers:=[] }:=by
 obtain ⟨t,d⟩:=a
 have e:=t260 t h.size
 have e2:d=[]:=h.defers
 refine ⟨sl t,h.e0,h.e2,h.e7,h.e9,h.e10,?_⟩
 rw [e2]
 exact congrArg (fun x=>Act.mk x []) e
structure T3 (a:Act)(v0 v2 v7 v9 v10 v11 v12:Value):Prop where
 size:a.tmps.size=260
 defers:a.defers=[]
 e0:sl a.tmps 0=v0
 e2:sl a.tmps 2=v2
 e7:sl a.tmps 7=v7
 e9:sl a.tmps 9=v9
 e10:sl a.tmps 10=v10
 e11:sl a.tmps 11=v11
 e12:sl a.tmps 12=v12
theorem T3.eq {a:Act}{v0 v2 v7 v9 v10 v11 v12:Value}(h:T3 a v0 v2 v7 v9 v10 v11 v12):∃f:Nat->Value,f 0=v0/\f 2=v2/\f 7=v7/\f 9=v9/\f 10=v10/\f 11=v11/\f 12=v12/\a={ tmps:=row260 f,defers:=[] }:=by
 obtain ⟨t,d⟩:=a
 have e:=t260 t h.size
 have e2:d=[]:=h.defers
 refine ⟨sl t,h.e0,h.e2,h.e7,h.e9,h.e10,h.e11,h.e12,?_⟩
 rw [e2]
 exact congrArg (fun x=>Act.mk x []) e
structure U3 (a:Act)(v0 v2 v7 v9 v10 v11 v12 v13:Value):Prop where
 size:a.tmps.size=260
 defers:a.defers=[]
 e0:sl a.tmps 0=v0
 e2:sl a.tmps 2=v2
 e7:sl a.tmps 7=v7
 e9:sl a.tmps 9=v9
 e10:sl a.tmps 10=v10
 e11:sl a.tmps 11=v11
 e12:sl a.tmps 12=v12
 e13:sl a.tmps 13=v13
theorem U3.eq {a:Act}{v0 v2 v7 v9 v10 v11 v12 v13:Value}(h:U3 a v0 v2 v7 v9 v10 v11 v12 v13):∃f:Nat->Value,f 0=v0/\f 2=v2/\f 7=v7/\f 9=v9/\f 10=v10/\f 11=v11/\f 12=v12/\f 13=v13/\a={ tmps:=row260 f,defers:=[] }:=by
 obtain ⟨t,d⟩:=a
 have e:=t260 t h.size
 have e2:d=[]:=h.defers
 refine ⟨sl t,h.e0,h.e2,h.e7,h.e9,h.e10,h.e11,h.e12,h.e13,?_⟩
 rw [e2]
 exact congrArg (fun x=>Act.mk x []) e
structure Msg3 (w A:World)(sb mb:Nat)(kd nn:Int)(o0:Value)(z1:Option Addr)(z2 z3:Nat)(m:PMsg)(u1:Option Addr)(u2 u3:Nat)(v1:Option Addr)(v2 v3:Nat):Prop where
 sbk:∃C,Blk A sb 47 C/\C[0]? = some (.int .i64 kd)/\C[1]? = some (.int .i64 nn)/\C[2]? = some o0/\C[15]? = some (.slice z1 z2 z3)
 mbk:MB A mb (.slice u1 u2 u3) (.slice v1 v2 v3) m
 ops:OpsOwn A w.heap.size (.slice u1 u2 u3) m.ask.ops
 ans:Disk.Own A w.heap.size (.slice v1 v2 v3) m.tell.answer
 len:m.tell.answer.length<=140737488351232
 inm:InM m
 src:kd≠7->Seg w (.slice z1 z2 z3) m.tell.answer
variable {sb mb:Nat} {kd nn:Int} {o0:Value} {z1:Option Addr} {z2 z3:Nat} {m:PMsg} {u1:Option Addr} {u2 u3:Nat} {v1:Option Addr} {v2 v3:Nat}
theorem Msg3.fr {G:Nat->Prop}(h:Msg3 w A sb mb kd nn o0 z1 z2 z3 m u1 u2 u3 v1 v2 v3)(hf:Fr A A' G)(hG:Gt A G)(h2:∀i,G i->∃t C,Blk A i t C/\t≠47/\t≠45):Msg3 w A' sb mb kd nn o0 z1 z2 z3 m u1 u2 u3 v1 v2 v3:=by
 obtain ⟨⟨C,hb,hc⟩,hm,ho,ha,hl,hi,hs⟩:=h
 refine ⟨⟨C,hb.same (hf.block _ hb.lt fun e=>?_),hc⟩,Blk.same hm (hf.block _ (Blk.lt hm) fun e=>?_),opsOwn_fr ho hf hG,own_fr ha hf hG,hl,hi,hs⟩
 ·obtain ⟨t,C',hb',h1,_⟩:=h2 _ e
  exact h1 (blk_type hb' hb)
 ·obtain ⟨t,C',hb',_,h1⟩:=h2 _ e
  exact h1 (blk_type hb' hm)
theorem Msg3.grown (h:Msg3 w A sb mb kd nn o0 z1 z2 z3 m u1 u2 u3 v1 v2 v3)(hg:A.grownBy A' none):Msg3 w A' sb mb kd nn o0 z1 z2 z3 m u1 u2 u3 v1 v2 v3 :=
 h.fr (G:=fun _=>False) (Fr.of hg (by simp)) (fun _ h=>h.elim) (fun _ h=>h.elim)
theorem Msg3.keep (h:Msg3 w A sb mb kd nn o0 z1 z2 z3 m u1 u2 u3 v1 v2 v3)(hk:Keep A A'):Msg3 w A' sb mb kd nn o0 z1 z2 z3 m u1 u2 u3 v1 v2 v3 :=
 h.fr hk (kb_gt A) fun i ⟨t,C,hb,ht⟩=>⟨t,C,hb,by rcases ht with rfl | rfl | rfl | rfl <;> decide,by rcases ht with rfl | rfl | rfl | rfl <;> decide⟩
theorem Msg3.keepD (h:Msg3 w A sb mb kd nn o0 z1 z2 z3 m u1 u2 u3 v1 v2 v3)(hk:KeepD A A'):Msg3 w A' sb mb kd nn o0 z1 z2 z3 m u1 u2 u3 v1 v2 v3 :=
 h.fr hk (db_gt A) fun i ⟨t,C,hb,ht⟩=>⟨t,C,hb,by rcases ht with rfl | rfl <;> decide,by rcases ht with rfl | rfl <;> decide⟩
theorem Msg3.cells (h:Msg3 w A sb mb kd nn o0 z1 z2 z3 m u1 u2 u3 v1 v2 v3):A.cell? ⟨sb,0,none⟩=some (.int .i64 kd)/\A.cell? ⟨sb,1,none⟩=some (.int .i64 nn)/\A.cell? ⟨sb,2,none⟩=some o0/\A.cell? ⟨sb,15,none⟩=some (.slice z1 z2 z3):=by
 obtain ⟨C,hb,h0,h1,h2,h3⟩:=h.sbk
 exact ⟨by rw [hb.cell];exact h0,by rw [hb.cell];exact h1,by rw [hb.cell];exact h2,by rw [hb.cell];exact h3⟩
theorem doc_keep (h:Doc w A k cf s)(hk:Keep A A')(hg:w.grownBy A' none):Doc w A' k cf s:=by
 obtain ⟨v,h⟩:=h
 exact ⟨v,h.beside hk (kb_gt A) (fun i ⟨t,C,hb,ht⟩=>⟨t,C,hb,by rcases ht with rfl | rfl | rfl | rfl <;> (unfold DT;omega)⟩) hg⟩
theorem doc_grown (h:Doc w A k cf s)(hg:A.grownBy A' none):Doc w A' k cf s:=by
 obtain ⟨v,h⟩:=h
 exact ⟨v,h.grown hg⟩
theorem doc_gr (h:Doc w A k cf s):w.grownBy A none:=by
 obtain ⟨v,h⟩:=h
 exact h.gr
theorem runs_keepD (h:Runs w A b s)(hk:KeepD A A')(hg:w.grownBy A' none):Runs w A' b s:=by
 obtain ⟨Q,F,oa,wo,wc,h⟩:=h
 refine ⟨_,F,oa,wo,wc,(h.cm.boxes).beside (G:=DB A) hk ?_ (db_gt A),hg,h.new⟩
 rintro i hi ⟨t,C,hb,ht⟩
 rcases hi with hi | hi
 ·obtain ⟨t',c,hb',hkt⟩:=h.cm.ft i hi
  have:=blk_type hb' hb
  subst this
  unfold KT at hkt
  unfold DT at ht
  omega
 ·obtain ⟨_,c,hb'⟩:=hi
  have:=blk_type hb' hb
  unfold DT at ht
  omega
theorem keepD_msgs {B:Nat}{v:Value}{l:List PMsg}(hk:KeepD A A')(h:MsgsOwn A B v l):MsgsOwn A' B v l:=by
 refine msgsOwn_fr h hk (db_gt A) fun i hi ⟨t,c,hb,ht⟩=>?_
 obtain ⟨⟨vs,h1,_⟩,_⟩:=h
 obtain ⟨C,hC⟩:=owns_blk h1 hi
 have:=blk_type hb hC
 subst this
 unfold DT at ht
 omega
theorem keepD_rets {B:Nat}{v:Value}{l:List PRet}(hk:KeepD A A')(h:Rets A B v l):Rets A' B v l:=by
 refine h.fr hk (db_gt A) fun i hi ⟨t,c,hb,ht⟩=>?_
 obtain ⟨_,_,C,hC⟩:=h.blk i hi
 have:=blk_type hb hC
 subst this
 unfold DT at ht
 omega
structure Liv (w A:World)(b k:Nat)(cf:PCfg)(s:CS)(n:Int)(i:Nat):Prop where
 run:Runs w A b s
 doc:Doc w A k cf s
 num:(s.num:Int)=n
 lst:0<=s.last/\s.last<=i
 tok:0<=s.tok/\s.tok<=8+8*(i:Int)
variable {n:Int} {i:Nat}
theorem Liv.grown (h:Liv w A b k cf s n i)(hg:A.grownBy A' none):Liv w A' b k cf s n i:=⟨h.run.grown hg,doc_grown h.doc hg,h.num,h.lst,h.tok⟩
theorem Liv.next {b':Nat}{s':CS}(h:Liv w A b k cf s n i)(hr:Runs w A' b' s')(hd:Doc w A' k cf s')(hc:Cst s s'):Liv w A' b' k cf s' n (i+1):=by
 have h1:=h.lst
 have h2:=h.tok
 have h3:=hc.tok
 have h4:=hc.last
 exact ⟨hr,hd,by rw [hc.num];exact h.num,⟨by omega,by push_cast;omega⟩,⟨by omega,by push_cast;omega⟩⟩
def Both (w A:World)(n:Int)(i:Nat)(v7 v9:Value):Prop :=
 (v7=.pointer none/\v9=.pointer none/\w.grownBy A none)\/∃b k cf s,v7=.pointer (some ⟨b,0,none⟩)/\v9=.pointer (some ⟨k,0,none⟩)/\Liv w A b k cf s n i
theorem Both.gr {v7 v9:Value}(h:Both w A n i v7 v9):w.grownBy A none:=by
 rcases h with ⟨_,_,h⟩ | ⟨b,k,cf,s,_,_,h⟩
 ·exact h
 ·exact h.run.gr
theorem Both.grown {v7 v9:Value}(h:Both w A n i v7 v9)(hg:A.grownBy A' none):Both w A' n i v7 v9:=by
 rcases h with ⟨h1,h2,h⟩ | ⟨b,k,cf,s,h1,h2,h⟩
 ·exact .inl ⟨h1,h2,grown_trans h hg⟩
 ·exact .inr ⟨b,k,cf,s,h1,h2,h.grown hg⟩
variable {w A A':World} {b k:Nat} {s:CS} {cf:PCfg}
theorem fore3 (a:Act)(w A:World)(n:Int)(so:Option Addr)(sn sc:Nat)(p7 p9:Option Addr)(i:Nat)(ss:List PStep)
  (hS:S3 a (.int .i64 n) (.slice so sn sc) (.pointer p7) (.pointer p9) (.int .i64 (i:Nat))) (hg:w.grownBy A none) (hs:StepsIn w (.slice so sn sc) ss) (hi:i<ss.length)
  (REST:Code) (Q:Exit->Act->World->Prop)
  (hk:∀a' A' sb mb kd nn x1 x2 x3 ops z1 z2 z3 m u1 u2 u3 v1 v2 v3,T3 a' (.int .i64 n) (.slice so sn sc) (.pointer p7) (.pointer p9) (.int .i64 (i:Nat)) (.pointer (some ⟨sb,0,none⟩)) (.pointer (some ⟨mb,0,none⟩))->A.grownBy A' none->A.heap.size<=mb->Msg3 w A' sb mb kd nn (.slice x1 x2 x3) z1 z2 z3 m u1 u2 u3 v1 v2 v3->(∀y,w.grownBy y none->Ops y (.slice x1 x2 x3) ops)->-9223372036854775808<=nn/\nn<=9223372036854775807->REST.wp Tryz.prog Q a' A') :
  (Code.seq (cL bd3) (.seq (cL (cR bd3)) REST)).wp Tryz.prog Q a A:=by
 have HO:Hid (w.grownBy A none):=hg
 obtain ⟨t,sl0,sl2,sl7,sl9,sl10,rfl⟩:=hS.eq
 unfold row260
 rw [sl0,sl2,sl7,sl9,sl10]
 clear sl0 sl2 sl7 sl9 sl10
 clear hS
 obtain ⟨hlen,g,off,o0,o2,av,rfl,hst⟩:=steps_at hs i hi
 obtain ⟨x,hx⟩:∃x,ss[i]=x:=⟨_,rfl⟩
 rw [hx] at hst
 obtain ⟨x1,x2,x3,rfl⟩:=isSl_ops hst.ops
 obtain ⟨y1,y2,y3,rfl⟩:=isSl_ops hst.ask
 obtain ⟨z1,z2,z3,rfl⟩:=isSl_seg hst.ans
 have d0:A.cell? ⟨g,off+i*16,none⟩=_:=hg.cell hst.c0 (by simp)
 have d1:A.cell? ⟨g,off+i*16+1,none⟩=_:=hg.cell hst.c1 (by simp)
 have d2:A.cell? ⟨g,off+i*16+2,none⟩=_:=hg.cell hst.c2 (by simp)
 have d3:A.cell? ⟨g,off+i*16+3,none⟩=_:=hg.cell hst.ms.c0 (by simp)
 have d4:A.cell? ⟨g,off+i*16+4,none⟩=_:=hg.cell hst.ms.c1 (by simp)
 have d5:A.cell? ⟨g,off+i*16+5,none⟩=_:=hg.cell hst.ms.c2 (by simp)
 have d6:A.cell? ⟨g,off+i*16+6,none⟩=_:=hg.cell hst.ms.c3 (by simp)
 have d7:A.cell? ⟨g,off+i*16+7,none⟩=_:=hg.cell hst.ms.c4 (by simp)
 have d8:A.cell? ⟨g,off+i*16+8,none⟩=_:=hg.cell hst.ms.c5 (by simp)
 have d9:A.cell? ⟨g,off+i*16+9,none⟩=_:=hg.cell hst.ms.c6 (by simp)
 have d10:A.cell? ⟨g,off+i*16+10,none⟩=_:=hg.cell hst.ms.c7 (by simp)
 have d11:A.cell? ⟨g,off+i*16+11,none⟩=_:=hg.cell hst.ms.c8 (by simp)
 have d12:A.cell? ⟨g,off+i*16+12,none⟩=_:=hg.cell hst.ms.c9 (by simp)
 have d13:A.cell? ⟨g,off+i*16+13,none⟩=_:=hg.cell hst.ms.c10 (by simp)
 have d14:A.cell? ⟨g,off+i*16+14,none⟩=_:=hg.cell hst.ms.c11 (by simp)
 have d15:A.cell? ⟨g,off+i*16+15,none⟩=_:=hg.cell hst.ms.c12 (by simp)
 obtain ⟨kd,hkd⟩:∃k,x.kind=k:=⟨_,rfl⟩
 obtain ⟨nn,hnn⟩:∃k,x.n=k:=⟨_,rfl⟩
 obtain ⟨m,hm⟩:∃k,x.tell=k:=⟨_,rfl⟩
 have HX:Hid ((∀y,w.grownBy y none->Ops y (.slice x1 x2 x3) x.ops)/\(-9223372036854775808<=nn/\nn<=9223372036854775807)/\Ops w (.slice y1 y2 y3) m.ask.ops/\Seg w (.slice z1 z2 z3) m.tell.answer/\GoodM m):=by
  refine ⟨fun y hy=>hst.ops.grown hy,?_,?_,?_,?_⟩
  ·rw [<-hnn];exact hst.n0
  ·rw [<-hm];exact hst.ask
  ·rw [<-hm];exact hst.ans
  ·rw [<-hm];exact hst.good
 rw [hkd] at d0
 rw [hnn] at d1
 rw [hm] at d3 d4 d5 d6 d7 d8 d9 d11 d12 d13 d14
 have j1:(i:Int)<(sn:Int):=by omega
 have j2:(0:Int)<=(i:Int):=by omega
 have HK:Hid (∀a' A' sb mb kd nn x1 x2 x3 ops z1 z2 z3 m u1 u2 u3 v1 v2 v3,T3 a' (.int .i64 n) (.slice (some ⟨g,off,none⟩) sn sc) (.pointer p7) (.pointer p9) (.int .i64 (i:Nat)) (.pointer (some ⟨sb,0,none⟩)) (.pointer (some ⟨mb,0,none⟩))->A.grownBy A' none->A.heap.size<=mb->Msg3 w A' sb mb kd nn (.slice x1 x2 x3) z1 z2 z3 m u1 u2 u3 v1 v2 v3->(∀y,w.grownBy y none->Ops y (.slice x1 x2 x3) ops)->-9223372036854775808<=nn/\nn<=9223372036854775807->REST.wp Tryz.prog Q a' A'):=hk
 clear hst hkd hnn hm hx hg hk hlen hs
 unfold bd3 rnd3 b3
 dsimp only [Tryz.f3,Option.getD,cL,cR,cB,cW]
 go_upto_region 9 with fail
 obtain ⟨W1,hW1,H1⟩:=al1 A #[.int .i64 kd,.int .i64 nn,.slice x1 x2 x3,.int .i64 m.kind,.int .i64 m.client,.int .i64 m.ask.kind,.int .i64 m.ask.token,.int .i64 m.ask.session,.int .i64 m.ask.number,.int .i64 m.ask.mark,.slice y1 y2 y3,.int .i64 m.tell.kind,.int .i64 m.tell.token,.int .i64 m.tell.session,.int .i64 m.tell.number,.slice z1 z2 z3] 47
 obtain ⟨sb,hsb⟩:∃x,A.heap.size=x:=⟨_,rfl⟩
 rw [hW1]
 rw [hsb] at H1 ⊢
 have HSB:Hid (A.heap.size=sb):=hsb
 clear hW1 hsb d0 d1 d2 d3 d4 d5 d6 d7 d8 d9 d10 d11 d12 d13 d14 d15
 obtain ⟨d3,d4,d5,d6,d7,d8,d9,d10,d11,d12,d13,d14,d15⟩:=blk13 H1.out.1
 go_wp2_with fail
 refine (copy6 (.slice y1 y2 y3) (.slice z1 z2 z3) m W1 (HX.out.2.2.1.grown (grown_trans HO.out H1.out.2.1)) (HX.out.2.2.2.1.grown (grown_trans HO.out H1.out.2.1)) HX.out.2.2.2.2.fit (by have:=HX.out.2.2.2.2.len;omega)).mono ?_
 rintro e W2 ⟨u,v,rfl,hu,hv,hg⟩
 obtain ⟨uo,un,uc,rfl,hun⟩:=hu.slice
 obtain ⟨vo,vn,vc,rfl⟩:=isSl_on hv
 have H2:Hid (Blk W2 sb 47 #[.int .i64 kd,.int .i64 nn,.slice x1 x2 x3,.int .i64 m.kind,.int .i64 m.client,.int .i64 m.ask.kind,.int .i64 m.ask.token,.int .i64 m.ask.session,.int .i64 m.ask.number,.int .i64 m.ask.mark,.slice y1 y2 y3,.int .i64 m.tell.kind,.int .i64 m.tell.token,.int .i64 m.tell.session,.int .i64 m.tell.number,.slice z1 z2 z3]/\A.grownBy W2 none/\OpsOwn W2 W1.heap.size (.slice uo un uc) m.ask.ops/\Disk.Own W2 W1.heap.size (.slice vo vn vc) m.tell.answer/\sb<W1.heap.size):=⟨H1.out.1.grown hg (by simp),grown_trans H1.out.2.1 hg,hu,hv,by have:=H1.out.2.2;have:=HSB.out;omega⟩
 have HZ:Hid (W1.heap.size<=W2.heap.size/\w.heap.size<=W1.heap.size):=⟨hg.size,(grown_trans HO.out H1.out.2.1).size⟩
 clear hu hv hg hun H1 d3 d4 d5 d6 d7 d8 d9 d10 d11 d12 d13 d14 d15 j1 j2
 unfold msgV
 go_wp2_with fail
 obtain ⟨W3,hW3,H3⟩:=al1 W2 #[.int .i64 m.kind,.int .i64 m.client,.int .i64 m.ask.kind,.int .i64 m.ask.token,.int .i64 m.ask.session,.int .i64 m.ask.number,.int .i64 m.ask.mark,.slice uo un uc,.int .i64 m.tell.kind,.int .i64 m.tell.token,.int .i64 m.tell.session,.int .i64 m.tell.number,.slice vo vn vc] 45
 obtain ⟨mb,hmb⟩:∃x,W2.heap.size=x:=⟨_,rfl⟩
 rw [hW3]
 rw [hmb] at H3 ⊢
 have HMB:Hid (W2.heap.size=mb):=hmb
 clear hW3 hmb
 refine HK.out _ W3 sb mb kd nn x1 x2 x3 _ z1 z2 z3 m uo un uc vo vn vc ⟨rfl,rfl,rfl,rfl,rfl,rfl,rfl,rfl,rfl⟩ (grown_trans H2.out.2.1 H3.out.2.1) ?_ ⟨⟨_,H2.out.1.grown H3.out.2.1 (by simp),rfl,rfl,rfl,rfl⟩,H3.out.1,(H2.out.2.2.1.grown H3.out.2.1).mono HZ.out.2,(H2.out.2.2.2.1.grown H3.out.2.1).mono HZ.out.2,HX.out.2.2.2.2.len,HX.out.2.2.2.2.inm,fun _=>HX.out.2.2.2.1⟩ HX.out.1 HX.out.2.1
 have:=HMB.out
 have:=H2.out.2.1.size
 omega
theorem msg3_put {A0:World}{sb mb:Nat}{kd nn:Int}{o0:Value}{z1:Option Addr}{z2 z3:Nat}{m m':PMsg}{u1 u1':Option Addr}{u2 u3 u2' u3':Nat}{v1 v1':Option Addr}{v2 v3 v2' v3':Nat}
  (h:Msg3 w A sb mb kd nn o0 z1 z2 z3 m u1 u2 u3 v1 v2 v3) (hA:A0.grownBy A none) (hmb:A0.heap.size<=mb) (hg:A.grownBy A' (some mb)) (hm:MB A' mb (.slice u1' u2' u3') (.slice v1' v2' v3') m')
  (ho:OpsOwn A w.heap.size (.slice u1' u2' u3') m'.ask.ops) (ha:Disk.Own A w.heap.size (.slice v1' v2' v3') m'.tell.answer) (hl:m'.tell.answer.length<=140737488351232) (hi:InM m') (hs:kd≠7->Seg w (.slice z1 z2 z3) m'.tell.answer) :
  Msg3 w A' sb mb kd nn o0 z1 z2 z3 m' u1' u2' u3' v1' v2' v3'/\A0.grownBy A' none:=by
 obtain ⟨⟨C,hb,hc⟩,hm0,_⟩:=h
 have hm1:Blk A mb 45 _:=hm0
 refine ⟨⟨⟨C,hb.grown hg fun e=>?_,hc⟩,hm,ho.set hm1 (by decide) (by decide) hg,own_set ha hm1 (by decide) hg,hl,hi,hs⟩,grown_new hA hg (by intro x hx;simp at hx;omega)⟩
 simp at e
 subst e
 exact absurd (blk_type hb hm1) (by decide)
def tellM (n:Int)(m:PMsg)(ses:Int):PMsg:=⟨2,n,m.ask,⟨m.tell.kind,m.tell.token,ses,m.tell.number,m.tell.answer⟩⟩
def openM (n t x:Int):PMsg:=⟨2,n,zeroC,⟨1,t,x,0,[]⟩⟩
theorem turn3_6 (a:Act)(w A0 A:World)(n:Int)(v2:Value)(b k:Nat)(i:Nat)(sb mb:Nat)(kd nn:Int)(o0:Value)(z1:Option Addr)(z2 z3:Nat)(m:PMsg)(u1:Option Addr)(u2 u3:Nat)(v1:Option Addr)(v2' v3:Nat)
  (hT:T3 a (.int .i64 n) v2 (.pointer (some ⟨b,0,none⟩)) (.pointer (some ⟨k,0,none⟩)) (.int .i64 (i:Nat)) (.pointer (some ⟨sb,0,none⟩)) (.pointer (some ⟨mb,0,none⟩))) (hL:Liv w A0 b k cf s n i) (hA:A0.grownBy A none) (hmb:A0.heap.size<=mb) (hM:Msg3 w A sb mb kd nn o0 z1 z2 z3 m u1 u2 u3 v1 v2' v3) (hkd:kd=6)
  (REST:Code) (Q:Exit->Act->World->Prop)
  (hk:∀a' A' m' u1 u2 u3 v1 v2' v3,T3 a' (.int .i64 n) v2 (.pointer (some ⟨b,0,none⟩)) (.pointer (some ⟨k,0,none⟩)) (.int .i64 (i:Nat)) (.pointer (some ⟨sb,0,none⟩)) (.pointer (some ⟨mb,0,none⟩))->A0.grownBy A' none->Msg3 w A' sb mb kd nn o0 z1 z2 z3 m' u1 u2 u3 v1 v2' v3->(kd=7->m'.tell.answer=[])->REST.wp Tryz.prog Q a' A') :
  (Code.seq (cL (cR (cR bd3))) (.seq (cL (cR (cR (cR bd3)))) REST)).wp Tryz.prog Q a A:=by
 obtain ⟨t,sl0,sl2,sl7,sl9,sl10,sl11,sl12,rfl⟩:=hT.eq
 unfold row260
 rw [sl0,sl2,sl7,sl9,sl10,sl11,sl12]
 clear sl0 sl2 sl7 sl9 sl10 sl11 sl12
 have HM:Hid (Msg3 w A sb mb kd nn o0 z1 z2 z3 m u1 u2 u3 v1 v2' v3/\A0.grownBy A none/\A0.heap.size<=mb/\Liv w A0 b k cf s n i):=⟨hM,hA,hmb,hL⟩
 have HK:Hid (∀a' A' m' u1 u2 u3 v1 v2' v3,T3 a' (.int .i64 n) v2 (.pointer (some ⟨b,0,none⟩)) (.pointer (some ⟨k,0,none⟩)) (.int .i64 (i:Nat)) (.pointer (some ⟨sb,0,none⟩)) (.pointer (some ⟨mb,0,none⟩))->A0.grownBy A' none->Msg3 w A' sb mb kd nn o0 z1 z2 z3 m' u1 u2 u3 v1 v2' v3->(kd=7->m'.tell.answer=[])->REST.wp Tryz.prog Q a' A'):=hk
 obtain ⟨d0,d1,d2,d15⟩:=hM.cells
 have HKD:Hid (kd=6):=hkd
 rw [hkd] at d0
 clear hT hL hA hmb hM hk hkd d1 d2 d15
 unfold bd3 rnd3 b3
 dsimp only [Tryz.f3,Option.getD,cL,cR,cB,cW]
 go_upto_region 11 with fail
 have HC:Hid (∀y,A.grownBy y (some mb)->y.cell? ⟨k,11,none⟩=some (.int .i64 s.ses)/\y.cell? ⟨sb,0,none⟩=some (.int .i64 6)):=fun y hy=>by
  obtain ⟨v,hd⟩:=HM.out.2.2.2.doc
  have hd':=(hd.grown (grown_new HM.out.2.1 hy (by intro x hx;have:=HM.out.2.2.1;simp at hx;omega))).blk
  refine ⟨hd'.cell 11,hy.cell d0 ?_⟩
  obtain ⟨⟨C,hb,_⟩,hm,_⟩:=HM.out.1
  simp
  rintro rfl
  exact absurd (blk_type hb hm) (by decide)
 clear d0
 refine wp_region_noPanic ?_
 refine wp_region_hold 1000 (fun y=>A.grownBy y (some mb)) (by kernel_rfl) ?_
 have G1:Hid (A.grownBy A.drew (some mb)/\MB A.drew mb (.slice u1 u2 u3) (.slice v1 v2' v3) m):=⟨grown_mono (grown_drew _ _),HM.out.1.mbk.grown (grown_drew _ _)⟩
 generalize A.drew=w1 at G1 ⊢
 have J:Idx [0,1,2,3,4,5]:=trivial
 iterate 6 (refine tK J (G1.out.1) rfl rfl (fun wk hk=>by obtain ⟨k11,k0⟩:=HC.out wk hk;go_simp;try rfl) ?_;replace J:=J.tl;try simp only [pN])
 clear J
 refine wpHold_one (i:=6) rfl (by kernel_rfl) (by rfl) (fun K hK=>?_)
 have q0:w1.cell? ⟨mb,0,none⟩=some (.int .i64 m.kind):=Blk.cell G1.out.2 0
 have r0:=Blk.free G1.out.2 0
 go_wp2_with fail
 have G6:Hid (A.grownBy (w1.setCell ⟨mb,0,none⟩ (.int .i64 2)) (some mb)/\MB (w1.setCell ⟨mb,0,none⟩ (.int .i64 2)) mb (.slice u1 u2 u3) (.slice v1 v2' v3) ⟨2,m.client,m.ask,m.tell⟩):=⟨grown_trans G1.out.1 (grown_setCell _ _ _ _),Blk.store G1.out.2 0 _⟩
 generalize w1.setCell ⟨mb,0,none⟩ (.int .i64 2)=w6 at G6 ⊢
 refine hK.out _ _ (fun _=>G6.out.1) ?_
 clear hK K q0 r0
 try simp only [pN]
 have J:Idx [7]:=trivial
 iterate 1 (refine tK J (G6.out.1) rfl rfl (fun wk hk=>by obtain ⟨k11,k0⟩:=HC.out wk hk;go_simp;try rfl) ?_;replace J:=J.tl;try simp only [pN])
 clear J
 refine wpHold_one (i:=8) rfl (by kernel_rfl) (by rfl) (fun K hK=>?_)
 have q0:w6.cell? ⟨mb,1,none⟩=some (.int .i64 m.client):=Blk.cell G6.out.2 1
 have r0:=Blk.free G6.out.2 1
 go_wp2_with fail
 have G8:Hid (A.grownBy (w6.setCell ⟨mb,1,none⟩ (.int .i64 n)) (some mb)/\MB (w6.setCell ⟨mb,1,none⟩ (.int .i64 n)) mb (.slice u1 u2 u3) (.slice v1 v2' v3) ⟨2,n,m.ask,m.tell⟩):=⟨grown_trans G6.out.1 (grown_setCell _ _ _ _),Blk.store G6.out.2 1 _⟩
 generalize w6.setCell ⟨mb,1,none⟩ (.int .i64 n)=w8 at G8 ⊢
 refine hK.out _ _ (fun _=>G8.out.1) ?_
 clear hK K q0 r0
 try simp only [pN]
 have J:Idx [9,10]:=trivial
 iterate 2 (refine tK J (G8.out.1) rfl rfl (fun wk hk=>by obtain ⟨k11,k0⟩:=HC.out wk hk;go_simp;try rfl) ?_;replace J:=J.tl;try simp only [pN])
 clear J
 refine wpHold_one (i:=11) rfl (by kernel_rfl) (by rfl) (fun K hK=>?_)
 have q0:w8.cell? ⟨mb,10,none⟩=some (.int .i64 m.tell.session):=Blk.cell G8.out.2 10
 have r0:=Blk.free G8.out.2 10
 go_wp2_with fail
 have G11:Hid (A.grownBy (w8.setCell ⟨mb,10,none⟩ (.int .i64 s.ses)) (some mb)/\MB (w8.setCell ⟨mb,10,none⟩ (.int .i64 s.ses)) mb (.slice u1 u2 u3) (.slice v1 v2' v3) (tellM n m s.ses)):=⟨grown_trans G8.out.1 (grown_setCell _ _ _ _),Blk.store G8.out.2 10 _⟩
 generalize w8.setCell ⟨mb,10,none⟩ (.int .i64 s.ses)=w11 at G11 ⊢
 refine hK.out _ _ (fun _=>G11.out.1) ?_
 clear hK K q0 r0
 try simp only [pN]
 refine wpHold_done (by kernel_rfl) ?_
 refine (‹∀(a:Act) (w:World),Code.wp Tryz.prog _ _ a w->_› _ _ ?_)
 have k0:=(HC.out w11 G11.out.1).2
 clear HC
 go_wp2_with fail
 have hin:=HM.out.1.inm
 have hok:=HM.out.2.2.2.run.ok
 have hnum:=HM.out.2.2.2.num
 obtain ⟨h1,h2⟩:=msg3_put (m':=tellM n m s.ses) HM.out.1 HM.out.2.1 HM.out.2.2.1 G11.out.1 G11.out.2 HM.out.1.ops HM.out.1.ans HM.out.1.len (by
  refine ⟨by simp [tellM],by simp [tellM],?_,?_,hin.ask,?_⟩
  ·have:=hok.num;simp only [tellM];omega
  ·have:=hok.num;simp only [tellM];omega
  ·obtain ⟨a1,a2,a3,a4,a5,a6,a7,a8⟩:=hin.tell
   have:=hok.ses
   exact ⟨a1,a2,a3,a4,by simp only [tellM];omega,by simp only [tellM];omega,a7,a8⟩) (fun e=>HM.out.1.src e)
 exact HK.out _ w11 _ _ _ _ _ _ _ ⟨rfl,rfl,rfl,rfl,rfl,rfl,rfl,rfl,rfl⟩ h2 h1 (fun e=>by rw [HKD.out] at e;exact absurd e (by decide))
theorem turn3_7 (a:Act)(w A0 A:World)(n:Int)(v2:Value)(b k:Nat)(i:Nat)(sb mb:Nat)(kd nn:Int)(o0:Value)(z1:Option Addr)(z2 z3:Nat)(m:PMsg)(u1:Option Addr)(u2 u3:Nat)(v1:Option Addr)(v2' v3:Nat)
  (hT:T3 a (.int .i64 n) v2 (.pointer (some ⟨b,0,none⟩)) (.pointer (some ⟨k,0,none⟩)) (.int .i64 (i:Nat)) (.pointer (some ⟨sb,0,none⟩)) (.pointer (some ⟨mb,0,none⟩))) (hL:Liv w A0 b k cf s n i) (hA:A0.grownBy A none) (hmb:A0.heap.size<=mb) (hM:Msg3 w A sb mb kd nn o0 z1 z2 z3 m u1 u2 u3 v1 v2' v3) (hkd:kd=7) (hnn:nn<=9223372036854775807)
  (REST:Code) (Q:Exit->Act->World->Prop)
  (hk:∀a' A' m' u1 u2 u3 v1 v2' v3,T3 a' (.int .i64 n) v2 (.pointer (some ⟨b,0,none⟩)) (.pointer (some ⟨k,0,none⟩)) (.int .i64 (i:Nat)) (.pointer (some ⟨sb,0,none⟩)) (.pointer (some ⟨mb,0,none⟩))->A0.grownBy A' none->Msg3 w A' sb mb kd nn o0 z1 z2 z3 m' u1 u2 u3 v1 v2' v3->(kd=7->m'.tell.answer=[])->REST.wp Tryz.prog Q a' A') :
  (Code.seq (cL (cR (cR bd3))) (.seq (cL (cR (cR (cR bd3)))) REST)).wp Tryz.prog Q a A:=by
 obtain ⟨t,sl0,sl2,sl7,sl9,sl10,sl11,sl12,rfl⟩:=hT.eq
 unfold row260
 rw [sl0,sl2,sl7,sl9,sl10,sl11,sl12]
 clear sl0 sl2 sl7 sl9 sl10 sl11 sl12
 have HM:Hid (Msg3 w A sb mb kd nn o0 z1 z2 z3 m u1 u2 u3 v1 v2' v3/\A0.grownBy A none/\A0.heap.size<=mb/\Liv w A0 b k cf s n i):=⟨hM,hA,hmb,hL⟩
 have HK:Hid (∀a' A' m' u1 u2 u3 v1 v2' v3,T3 a' (.int .i64 n) v2 (.pointer (some ⟨b,0,none⟩)) (.pointer (some ⟨k,0,none⟩)) (.int .i64 (i:Nat)) (.pointer (some ⟨sb,0,none⟩)) (.pointer (some ⟨mb,0,none⟩))->A0.grownBy A' none->Msg3 w A' sb mb kd nn o0 z1 z2 z3 m' u1 u2 u3 v1 v2' v3->(kd=7->m'.tell.answer=[])->REST.wp Tryz.prog Q a' A'):=hk
 obtain ⟨d0,d1,d2,d15⟩:=hM.cells
 obtain ⟨xn,hxn⟩:∃x,max 1 nn=x:=⟨_,rfl⟩
 have HKD:Hid (kd=7/\1<=xn/\xn<=9223372036854775807):=⟨hkd,by omega,by omega⟩
 rw [hkd] at d0
 have HC:Hid (∀y,A.grownBy y none->y.cell? ⟨k,12,none⟩=some (.int .i64 s.tok)/\y.cell? ⟨sb,1,none⟩=some (.int .i64 nn)):=fun y hy=>by
  obtain ⟨v,hd⟩:=HM.out.2.2.2.doc
  have hd':=(hd.grown (grown_trans HM.out.2.1 hy)).blk
  exact ⟨hd'.cell 12,hy.cell d1 (by simp)⟩
 clear hT hL hA hmb hM hk hkd d2 d15 hnn d1
 unfold bd3 rnd3 b3
 dsimp only [Tryz.f3,Option.getD,cL,cR,cB,cW]
 have end3:∀(w1:World) (a':Act),T3 a' (.int .i64 n) v2 (.pointer (some ⟨b,0,none⟩)) (.pointer (some ⟨k,0,none⟩)) (.int .i64 (i:Nat)) (.pointer (some ⟨sb,0,none⟩)) (.pointer (some ⟨mb,0,none⟩))->A.grownBy w1 (some mb)->MB w1 mb (.slice none 0 0) (.slice none 0 0) (openM n s.tok xn)->REST.wp Tryz.prog Q a' w1:=by
  intro w1 a' hT hg hm
  have hok:=HM.out.2.2.2.run.ok
  have hnum:=HM.out.2.2.2.num
  obtain ⟨h1,h2⟩:=msg3_put (m':=openM n s.tok xn) HM.out.1 HM.out.2.1 HM.out.2.2.1 hg hm (opsOwn_nil _ _) (Own.nil _ _) (by simp [openM]) (by
   have h1:=hok.num
   have h2:=hok.tok
   have h3:=HKD.out
   refine ⟨by simp [openM],by simp [openM],?_,?_,inC_zero,?_⟩
   ·simp only [openM];omega
   ·simp only [openM];omega
   ·constructor <;> simp [openM] <;> omega) (fun e=>absurd HKD.out.1 e)
  exact HK.out _ w1 _ _ _ _ _ _ _ hT h2 h1 (fun _=>rfl)
 have HEND:Hid _:=end3
 clear end3
 rcases (by omega:(1<nn)\/¬(1<nn)) with hp | hp
 ·have HX2:Hid (nn=xn):=by unfold Hid;omega
  go_upto_region 13 with fail
  clear d0
  refine wp_region_noPanic ?_
  refine wp_region_hold 10 (fun y=>A.grownBy y none) (by kernel_rfl) ?_
  have G1:Hid (A.grownBy A.drew none/\Room A.drew mb):=⟨grown_drew _ _,HM.out.1.mbk.room.grown (grown_drew _ _)⟩
  generalize A.drew=w1 at G1 ⊢
  have J:Idx [0,1,2,3,4,5,6,7,8,9]:=trivial
  iterate 10 (refine tK J (G1.out.1) rfl rfl (fun wk hk=>by obtain ⟨k12,k1⟩:=HC.out wk hk;go_simp;try rfl) ?_;replace J:=J.tl;try simp only [pN])
  clear J
  refine wpHold_one (i:=10) rfl (by kernel_rfl) (by rfl) (fun K hK=>?_)
  obtain ⟨r0,r1,r2,r3,r4,r5,r6,r7,r8,r9,r10,r11,r12,u0,u1,u2,u3,u4,u5,u6,u7,u8,u9,u10,u11,u12⟩:=G1.out.2.cells
  obtain ⟨z0,z1,z2,z3,z4,z5,z6,z7,z8,z9,z10,z11,z12⟩:=G1.out.2.frees
  go_wp2_with fail
  obtain ⟨W8,hW8,H8⟩:=setM G1.out.2 (.slice none 0 0) (.slice none 0 0) (openM n s.tok nn)
  unfold openM zeroC at hW8
  dsimp only at hW8
  rw [hW8]
  clear hW8 u0 u1 u2 u3 u4 u5 u6 u7 u8 u9 u10 u11 u12 z0 z1 z2 z3 z4 z5 z6 z7 z8 z9 z10 z11 z12
  refine hK.out _ _ (fun h=>absurd rfl h) ?_
  clear hK K
  try simp only [pN]
  refine wpHold_done (by kernel_rfl) ?_
  refine (‹∀(a:Act) (w:World),Code.wp Tryz.prog _ _ a w->_› _ _ ?_)
  refine HEND.out W8 _ ⟨rfl,rfl,rfl,rfl,rfl,rfl,rfl,rfl,rfl⟩ (grown_trans (grown_mono G1.out.1) H8.out.2) (by have e:=HX2.out;rw [<-e];exact H8.out.1)
 ·have HX2:Hid (1=xn):=by unfold Hid;omega
  go_upto_region 13 with fail
  clear d0
  refine wp_region_noPanic ?_
  refine wp_region_hold 10 (fun y=>A.grownBy y none) (by kernel_rfl) ?_
  have G1:Hid (A.grownBy A.drew none/\Room A.drew mb):=⟨grown_drew _ _,HM.out.1.mbk.room.grown (grown_drew _ _)⟩
  generalize A.drew=w1 at G1 ⊢
  have J:Idx [0,1,2,3,4,5,6,7,8,9]:=trivial
  iterate 10 (refine tK J (G1.out.1) rfl rfl (fun wk hk=>by obtain ⟨k12,k1⟩:=HC.out wk hk;go_simp;try rfl) ?_;replace J:=J.tl;try simp only [pN])
  clear J
  refine wpHold_one (i:=10) rfl (by kernel_rfl) (by rfl) (fun K hK=>?_)
  obtain ⟨r0,r1,r2,r3,r4,r5,r6,r7,r8,r9,r10,r11,r12,u0,u1,u2,u3,u4,u5,u6,u7,u8,u9,u10,u11,u12⟩:=G1.out.2.cells
  obtain ⟨z0,z1,z2,z3,z4,z5,z6,z7,z8,z9,z10,z11,z12⟩:=G1.out.2.frees
  go_wp2_with fail
  obtain ⟨W8,hW8,H8⟩:=setM G1.out.2 (.slice none 0 0) (.slice none 0 0) (openM n s.tok 1)
  unfold openM zeroC at hW8
  dsimp only at hW8
  rw [hW8]
  clear hW8 u0 u1 u2 u3 u4 u5 u6 u7 u8 u9 u10 u11 u12 z0 z1 z2 z3 z4 z5 z6 z7 z8 z9 z10 z11 z12
  refine hK.out _ _ (fun h=>absurd rfl h) ?_
  clear hK K
  try simp only [pN]
  refine wpHold_done (by kernel_rfl) ?_
  refine (‹∀(a:Act) (w:World),Code.wp Tryz.prog _ _ a w->_› _ _ ?_)
  refine HEND.out W8 _ ⟨rfl,rfl,rfl,rfl,rfl,rfl,rfl,rfl,rfl⟩ (grown_trans (grown_mono G1.out.1) H8.out.2) (by have e:=HX2.out;rw [<-e];exact H8.out.1)
theorem turn3_0 (a:Act)(w A0 A:World)(n:Int)(v2:Value)(p7 p9:Option Addr)(i:Nat)(sb mb:Nat)(kd nn:Int)(o0:Value)(z1:Option Addr)(z2 z3:Nat)(m:PMsg)(u1:Option Addr)(u2 u3:Nat)(v1:Option Addr)(v2' v3:Nat)
  (hT:T3 a (.int .i64 n) v2 (.pointer p7) (.pointer p9) (.int .i64 (i:Nat)) (.pointer (some ⟨sb,0,none⟩)) (.pointer (some ⟨mb,0,none⟩))) (hA:A0.grownBy A none) (hM:Msg3 w A sb mb kd nn o0 z1 z2 z3 m u1 u2 u3 v1 v2' v3) (hkd:p9=none\/(∃q,p9=some q)/\kd≠6/\kd≠7)
  (REST:Code) (Q:Exit->Act->World->Prop)
  (hk:∀a' A' m' u1 u2 u3 v1 v2' v3,T3 a' (.int .i64 n) v2 (.pointer p7) (.pointer p9) (.int .i64 (i:Nat)) (.pointer (some ⟨sb,0,none⟩)) (.pointer (some ⟨mb,0,none⟩))->A0.grownBy A' none->Msg3 w A' sb mb kd nn o0 z1 z2 z3 m' u1 u2 u3 v1 v2' v3->(kd=7->p9=none)->REST.wp Tryz.prog Q a' A') :
  (Code.seq (cL (cR (cR bd3))) (.seq (cL (cR (cR (cR bd3)))) REST)).wp Tryz.prog Q a A:=by
 obtain ⟨t,sl0,sl2,sl7,sl9,sl10,sl11,sl12,rfl⟩:=hT.eq
 unfold row260
 rw [sl0,sl2,sl7,sl9,sl10,sl11,sl12]
 clear sl0 sl2 sl7 sl9 sl10 sl11 sl12
 have HM:Hid (Msg3 w A sb mb kd nn o0 z1 z2 z3 m u1 u2 u3 v1 v2' v3/\A0.grownBy A none):=⟨hM,hA⟩
 have HK:Hid (∀a' A' m' u1 u2 u3 v1 v2' v3,T3 a' (.int .i64 n) v2 (.pointer p7) (.pointer p9) (.int .i64 (i:Nat)) (.pointer (some ⟨sb,0,none⟩)) (.pointer (some ⟨mb,0,none⟩))->A0.grownBy A' none->Msg3 w A' sb mb kd nn o0 z1 z2 z3 m' u1 u2 u3 v1 v2' v3->(kd=7->p9=none)->REST.wp Tryz.prog Q a' A'):=hk
 obtain ⟨d0,d1,d2,d15⟩:=hM.cells
 clear hT hA hM hk d1 d2 d15
 rcases hkd with rfl | ⟨⟨q,rfl⟩,h6,h7⟩
 ·unfold bd3 rnd3 b3
  dsimp only [Tryz.f3,Option.getD,cL,cR,cB,cW]
  go_wp2_with fail
  exact HK.out _ A _ _ _ _ _ _ _ ⟨rfl,rfl,rfl,rfl,rfl,rfl,rfl,rfl,rfl⟩ HM.out.2 HM.out.1 (fun _=>by first | rfl | trivial)
 ·have f6:(kd==6)=false:=by rw [beq_eq_false_iff_ne];exact h6
  have f7:(kd==7)=false:=by rw [beq_eq_false_iff_ne];exact h7
  have H7:Hid (kd≠7):=h7
  clear h6 h7
  unfold bd3 rnd3 b3
  dsimp only [Tryz.f3,Option.getD,cL,cR,cB,cW]
  go_wp2_with fail
  exact HK.out _ A _ _ _ _ _ _ _ ⟨rfl,rfl,rfl,rfl,rfl,rfl,rfl,rfl,rfl⟩ HM.out.2 HM.out.1 (fun e=>absurd e H7.out)
variable {w A A':World} {b k:Nat} {s:CS} {cf:PCfg}
theorem now3 (a:Act)(w A0 A:World)(n:Int)(v2:Value)(p7 p9:Option Addr)(i:Nat)(sb mb:Nat)(kd nn:Int)(o0:Value)(z1:Option Addr)(z2 z3:Nat)(m:PMsg)(u1:Option Addr)(u2 u3:Nat)(v1:Option Addr)(v2' v3:Nat)
  (hT:T3 a (.int .i64 n) v2 (.pointer p7) (.pointer p9) (.int .i64 (i:Nat)) (.pointer (some ⟨sb,0,none⟩)) (.pointer (some ⟨mb,0,none⟩))) (hA:A0.grownBy A none) (hM:Msg3 w A sb mb kd nn o0 z1 z2 z3 m u1 u2 u3 v1 v2' v3) (hp:p9=none\/∃k s cf,p9=some ⟨k,0,none⟩/\Doc w A0 k cf s/\Okc s)
  (REST:Code) (Q:Exit->Act->World->Prop)
  (hk:∀a' A' now,U3 a' (.int .i64 n) v2 (.pointer p7) (.pointer p9) (.int .i64 (i:Nat)) (.pointer (some ⟨sb,0,none⟩)) (.pointer (some ⟨mb,0,none⟩)) (.int .i64 now)->A0.grownBy A' none->Msg3 w A' sb mb kd nn o0 z1 z2 z3 m u1 u2 u3 v1 v2' v3->REST.wp Tryz.prog Q a' A') :
  (Code.seq (cL (cR (cR (cR (cR bd3))))) (.seq (cL (cR (cR (cR (cR (cR bd3)))))) REST)).wp Tryz.prog Q a A:=by
 obtain ⟨t,sl0,sl2,sl7,sl9,sl10,sl11,sl12,rfl⟩:=hT.eq
 unfold row260
 rw [sl0,sl2,sl7,sl9,sl10,sl11,sl12]
 clear sl0 sl2 sl7 sl9 sl10 sl11 sl12
 have HM:Hid (Msg3 w A sb mb kd nn o0 z1 z2 z3 m u1 u2 u3 v1 v2' v3/\A0.grownBy A none):=⟨hM,hA⟩
 have HK:Hid (∀a' A' now,U3 a' (.int .i64 n) v2 (.pointer p7) (.pointer p9) (.int .i64 (i:Nat)) (.pointer (some ⟨sb,0,none⟩)) (.pointer (some ⟨mb,0,none⟩)) (.int .i64 now)->A0.grownBy A' none->Msg3 w A' sb mb kd nn o0 z1 z2 z3 m u1 u2 u3 v1 v2' v3->REST.wp Tryz.prog Q a' A'):=hk
 obtain ⟨d0,d1,d2,d15⟩:=hM.cells
 clear hT hA hM hk d2 d15
 unfold bd3 rnd3 b3
 dsimp only [Tryz.f3,Option.getD,cL,cR,cB,cW]
 by_cases h2:kd=2
 ·subst h2
  rcases hp with rfl | ⟨k,s,cf,rfl,hd,hok⟩
  ·go_wp2_with fail
   exact HK.out _ A _ ⟨rfl,rfl,rfl,rfl,rfl,rfl,rfl,rfl,rfl,rfl⟩ HM.out.2 HM.out.1
  ·have HD:Hid (Doc w A0 k cf s/\Okc s):=⟨hd,hok⟩
   clear hd hok
   by_cases h3:0<=nn
   ·by_cases h4:nn<1048576
    ·have d3:IntKind.i64.wrap (s.now+nn)=s.now+nn:=by have:=HD.out.2.now;rw [IntKind.wrap_i64];omega
     have HC:Hid (∀y,A.grownBy y none->y.cell? ⟨k,15,none⟩=some (.int .i64 s.now)/\y.cell? ⟨sb,1,none⟩=some (.int .i64 nn)):=fun y hy=>by
      obtain ⟨v,hd⟩:=HD.out.1
      exact ⟨(hd.grown (grown_trans HM.out.2 hy)).blk.cell 15,hy.cell d1 (by simp)⟩
     go_upto_region 16 with fail
     clear d0 d1 h3 h4
     refine wp_region_noPanic ?_
     refine wp_region_hold 1000 (fun y=>A.grownBy y none) (by kernel_rfl) ?_
     have G1:Hid (A.grownBy A.drew none):=grown_drew _ _
     generalize A.drew=w1 at G1 ⊢
     have J:Idx [0,1,2,3,4,5,6,7]:=trivial
     iterate 8 (refine tK J (G1.out) rfl rfl (fun wk hk=>by obtain ⟨k15,k1⟩:=HC.out wk hk;go_simp;try rfl) ?_;replace J:=J.tl;try simp only [pN])
     clear J
     refine wpHold_done (by kernel_rfl) ?_
     refine (‹∀(a:Act) (w:World),Code.wp Tryz.prog _ _ a w->_› _ _ ?_)
     exact HK.out _ w1 _ ⟨rfl,rfl,rfl,rfl,rfl,rfl,rfl,rfl,rfl,rfl⟩ (grown_trans HM.out.2 G1.out) (HM.out.1.grown G1.out)
    ·go_wp2_with fail
     exact HK.out _ A _ ⟨rfl,rfl,rfl,rfl,rfl,rfl,rfl,rfl,rfl,rfl⟩ HM.out.2 HM.out.1
   ·go_wp2_with fail
    exact HK.out _ A _ ⟨rfl,rfl,rfl,rfl,rfl,rfl,rfl,rfl,rfl,rfl⟩ HM.out.2 HM.out.1
 ·have f2:(kd==2)=false:=by rw [beq_eq_false_iff_ne];exact h2
  clear h2 hp
  go_wp2_with fail
  exact HK.out _ A _ ⟨rfl,rfl,rfl,rfl,rfl,rfl,rfl,rfl,rfl,rfl⟩ HM.out.2 HM.out.1
variable {w A A':World} {b k:Nat} {s:CS} {cf:PCfg}
def Sw3 (w:World)(n:Int)(v2:Value)(i:Nat)(a:Act)(A:World):Prop:=∃p7 p9,S3 a (.int .i64 n) v2 p7 p9 (.int .i64 (i:Nat))/\Both w A n (i+1) p7 p9
theorem sw3_1 (a:Act)(w A:World)(n:Int)(v2:Value)(b k:Nat)(i:Nat)(sb mb:Nat)(kd nn now:Int)(x1:Option Addr)(x2 x3:Nat)(ops:List POp)(z1:Option Addr)(z2 z3:Nat)(m:PMsg)(u1:Option Addr)(u2 u3:Nat)(v1:Option Addr)(v2' v3:Nat)(hi:i<1000000000000)
  (hU:U3 a (.int .i64 n) v2 (.pointer (some ⟨b,0,none⟩)) (.pointer (some ⟨k,0,none⟩)) (.int .i64 (i:Nat)) (.pointer (some ⟨sb,0,none⟩)) (.pointer (some ⟨mb,0,none⟩)) (.int .i64 now)) (hL:Liv w A b k cf s n i) (hM:Msg3 w A sb mb kd nn (.slice x1 x2 x3) z1 z2 z3 m u1 u2 u3 v1 v2' v3) (hx:∀y,w.grownBy y none->Ops y (.slice x1 x2 x3) ops) (hkd:kd=1) :
  sw3.wp Tryz.prog (At4 (Sw3 w n v2 i)) a A:=by
 obtain ⟨t,sl0,sl2,sl7,sl9,sl10,sl11,sl12,sl13,rfl⟩:=hU.eq
 unfold row260
 rw [sl0,sl2,sl7,sl9,sl10,sl11,sl12,sl13]
 clear sl0 sl2 sl7 sl9 sl10 sl11 sl12 sl13
 have HL:Hid (Liv w A b k cf s n i/\(∀y,w.grownBy y none->Ops y (.slice x1 x2 x3) ops)/\Okc s/\s.last<1000000000000):=⟨hL,hx,hL.run.ok,by have:=hL.lst;omega⟩
 obtain ⟨d0,d1,d2,d15⟩:=hM.cells
 have HM:Hid (Msg3 w A sb mb kd nn (.slice x1 x2 x3) z1 z2 z3 m u1 u2 u3 v1 v2' v3):=hM
 subst hkd
 clear hU hL hM hx d1 d15 hi
 unfold sw3 rest3 bd3 rnd3 b3
 dsimp only [Tryz.f3,Option.getD,cL,cR,cB,cW]
 go_wp2_with fail
 refine (rinvoke HL.out.1.run HL.out.2.1 HL.out.2.2.2).mono ?_
 rintro e A1 ⟨s',rfl,hs,hr,hkp⟩
 have H1:Hid (Runs w A1 b s'/\Doc w A1 k cf s/\((openW s ops=0/\∃o n c,s'=s.id.put ⟨s.last+1,o,n,c,ops,false,0⟩)\/(openW s ops≠0/\s'=s.id))):=⟨hr,doc_keep HL.out.1.doc hkp hr.gr,hs⟩
 obtain ⟨d0,d1,d2,d15⟩:=(HM.out.keep hkp).cells
 clear hs hr hkp d1 d15
 go_wp2_with fail
 obtain ⟨v,hd⟩:=H1.out.2.1
 refine (rinvoke10 A1 x1 x2 x3 ops hd HL.out.2.2.1 HL.out.2.1 HL.out.2.2.2).mono ?_
 rintro e A2 ⟨rfl,hD,hkD⟩
 have HZ:Hid (Both w A2 n (i+1) (.pointer (some ⟨b,0,none⟩)) (.pointer (some ⟨k,0,none⟩))):=by
  have hd2:=hD s' H1.out.2.2
  refine .inr ⟨b,k,cf,s',rfl,rfl,HL.out.1.next (runs_keepD H1.out.1 hkD (doc_gr hd2)) hd2 ?_⟩
  rcases H1.out.2.2 with ⟨_,o,n,c,rfl⟩ | ⟨_,rfl⟩
  ·exact cst_put _
  ·exact cst_id
 clear hd hD hkD d0 d2
 go_wp2_with fail
 exact ⟨_,_,⟨rfl,rfl,rfl,rfl,rfl,rfl,rfl⟩,HZ.out⟩
theorem sw3_2 (a:Act)(w A:World)(n:Int)(v2:Value)(b k:Nat)(i:Nat)(sb mb:Nat)(kd nn now:Int)(o0:Value)(z1:Option Addr)(z2 z3:Nat)(m:PMsg)(u1:Option Addr)(u2 u3:Nat)(v1:Option Addr)(v2' v3:Nat)
  (hU:U3 a (.int .i64 n) v2 (.pointer (some ⟨b,0,none⟩)) (.pointer (some ⟨k,0,none⟩)) (.int .i64 (i:Nat)) (.pointer (some ⟨sb,0,none⟩)) (.pointer (some ⟨mb,0,none⟩)) (.int .i64 now)) (hL:Liv w A b k cf s n i) (hM:Msg3 w A sb mb kd nn o0 z1 z2 z3 m u1 u2 u3 v1 v2' v3) (hkd:kd=2\/kd=8) :
  sw3.wp Tryz.prog (At4 (Sw3 w n v2 i)) a A:=by
 obtain ⟨t,sl0,sl2,sl7,sl9,sl10,sl11,sl12,sl13,rfl⟩:=hU.eq
 unfold row260
 rw [sl0,sl2,sl7,sl9,sl10,sl11,sl12,sl13]
 clear sl0 sl2 sl7 sl9 sl10 sl11 sl12 sl13
 have HL:Hid (Liv w A b k cf s n i/\Okc s):=⟨hL,hL.run.ok⟩
 obtain ⟨d0,d1,d2,d15⟩:=hM.cells
 clear hU hL hM d1 d2 d15
 unfold sw3 rest3 bd3 rnd3 b3
 dsimp only [Tryz.f3,Option.getD,cL,cR,cB,cW]
 rcases hkd with rfl | rfl
 ·go_wp2_with fail
  refine (rstep now HL.out.1.run).mono ?_
  rintro e A1 ⟨v,rfl,hv',hr,hkp⟩
  obtain ⟨q1,q2,q3,rfl,hvn⟩:=hv'.slice;clear hvn
  have H1:Hid (MsgsOwn A1 A.heap.size (.slice q1 q2 q3) (stepM s now)/\Runs w A1 b (stepS s now)/\Doc w A1 k cf s):=⟨hv',hr,doc_keep HL.out.1.doc hkp hr.gr⟩
  clear hv' hr hkp d0
  go_wp2_with fail
  obtain ⟨v,hd⟩:=H1.out.2.2
  refine (rstep12 A1 now hd HL.out.2).mono ?_
  rintro e A2 ⟨v',rfl,hv',hd2,hkD⟩
  obtain ⟨q4,q5,q6,rfl,hvn⟩:=hv'.slice;clear hvn
  have H2:Hid (MsgsOwn A2 A.heap.size (.slice q1 q2 q3) (stepM s now)/\MsgsOwn A2 A1.heap.size (.slice q4 q5 q6) (stepM s now)/\Both w A2 n (i+1) (.pointer (some ⟨b,0,none⟩)) (.pointer (some ⟨k,0,none⟩))) :=
   ⟨keepD_msgs hkD H1.out.1,hv',.inr ⟨b,k,cf,_,rfl,rfl,HL.out.1.next (runs_keepD H1.out.2.1 hkD (doc_gr hd2)) hd2 (cst_step now)⟩⟩
  obtain ⟨se,hse⟩:∃x,stepE s now=x:=⟨_,rfl⟩
  rw [hse]
  clear hd hv' hd2 hkD hse
  go_wp2_with fail
  refine (sameAll13 A2 _ _ _ _ _ H2.out.1 H2.out.2.1).mono ?_
  rintro e A3 ⟨rfl,hg⟩
  have H3:Hid (Both w A3 n (i+1) (.pointer (some ⟨b,0,none⟩)) (.pointer (some ⟨k,0,none⟩))):=H2.out.2.2.grown hg
  clear hg
  go_wp2_with fail
  exact ⟨_,_,⟨rfl,rfl,rfl,rfl,rfl,rfl,rfl⟩,H3.out⟩
 ·go_wp2_with fail
  refine (rstep now HL.out.1.run).mono ?_
  rintro e A1 ⟨v,rfl,hv',hr,hkp⟩
  obtain ⟨q1,q2,q3,rfl,hvn⟩:=hv'.slice;clear hvn
  have H1:Hid (MsgsOwn A1 A.heap.size (.slice q1 q2 q3) (stepM s now)/\Runs w A1 b (stepS s now)/\Doc w A1 k cf s):=⟨hv',hr,doc_keep HL.out.1.doc hkp hr.gr⟩
  clear hv' hr hkp d0
  go_wp2_with fail
  obtain ⟨v,hd⟩:=H1.out.2.2
  refine (rstep12 A1 now hd HL.out.2).mono ?_
  rintro e A2 ⟨v',rfl,hv',hd2,hkD⟩
  obtain ⟨q4,q5,q6,rfl,hvn⟩:=hv'.slice;clear hvn
  have H2:Hid (MsgsOwn A2 A.heap.size (.slice q1 q2 q3) (stepM s now)/\MsgsOwn A2 A1.heap.size (.slice q4 q5 q6) (stepM s now)/\Both w A2 n (i+1) (.pointer (some ⟨b,0,none⟩)) (.pointer (some ⟨k,0,none⟩))) :=
   ⟨keepD_msgs hkD H1.out.1,hv',.inr ⟨b,k,cf,_,rfl,rfl,HL.out.1.next (runs_keepD H1.out.2.1 hkD (doc_gr hd2)) hd2 (cst_step now)⟩⟩
  obtain ⟨se,hse⟩:∃x,stepE s now=x:=⟨_,rfl⟩
  rw [hse]
  clear hd hv' hd2 hkD hse
  go_wp2_with fail
  refine (sameAll13 A2 _ _ _ _ _ H2.out.1 H2.out.2.1).mono ?_
  rintro e A3 ⟨rfl,hg⟩
  have H3:Hid (Both w A3 n (i+1) (.pointer (some ⟨b,0,none⟩)) (.pointer (some ⟨k,0,none⟩))):=H2.out.2.2.grown hg
  clear hg
  go_wp2_with fail
  exact ⟨_,_,⟨rfl,rfl,rfl,rfl,rfl,rfl,rfl⟩,H3.out⟩
theorem sw3_4 (a:Act)(w A:World)(n:Int)(v2:Value)(b k:Nat)(i:Nat)(sb mb:Nat)(kd nn now:Int)(o0:Value)(z1:Option Addr)(z2 z3:Nat)(m:PMsg)(u1:Option Addr)(u2 u3:Nat)(v1:Option Addr)(v2' v3:Nat)(hi:i<1000000000000)
  (hU:U3 a (.int .i64 n) v2 (.pointer (some ⟨b,0,none⟩)) (.pointer (some ⟨k,0,none⟩)) (.int .i64 (i:Nat)) (.pointer (some ⟨sb,0,none⟩)) (.pointer (some ⟨mb,0,none⟩)) (.int .i64 now)) (hL:Liv w A b k cf s n i) (hM:Msg3 w A sb mb kd nn o0 z1 z2 z3 m u1 u2 u3 v1 v2' v3) (hkd:kd=4) :
  sw3.wp Tryz.prog (At4 (Sw3 w n v2 i)) a A:=by
 obtain ⟨t,sl0,sl2,sl7,sl9,sl10,sl11,sl12,sl13,rfl⟩:=hU.eq
 unfold row260
 rw [sl0,sl2,sl7,sl9,sl10,sl11,sl12,sl13]
 clear sl0 sl2 sl7 sl9 sl10 sl11 sl12 sl13
 have HL:Hid (Liv w A b k cf s n i/\Okc s/\s.tok<=3999999999999992/\(leaveL s).length<=1000000000000):=⟨hL,hL.run.ok,by have:=hL.tok;omega,by have:=leaveL_len (s:=s);have:=hL.run.ok.last;omega⟩
 obtain ⟨d0,d1,d2,d15⟩:=hM.cells
 subst hkd
 clear hU hL hM d1 d2 d15 hi
 unfold sw3 rest3 bd3 rnd3 b3
 dsimp only [Tryz.f3,Option.getD,cL,cR,cB,cW]
 go_wp2_with fail
 refine (rleave HL.out.1.run HL.out.2.2.1).mono ?_
 rintro e A1 ⟨v,u,rfl,hv',hu,hr,hkp⟩
 obtain ⟨p1,p2,p3,rfl⟩:=hu.slice
 obtain ⟨q1,q2,q3,rfl,hvn⟩:=hv'.slice;clear hvn
 have H1:Hid (MsgsOwn A1 A.heap.size (.slice q1 q2 q3) (leaveM s)/\Rets A1 A.heap.size (.slice p1 p2 p3) (leaveL s)/\Runs w A1 b (leaveS s)/\Doc w A1 k cf s):=⟨hv',hu,hr,doc_keep HL.out.1.doc hkp hr.gr⟩
 clear hv' hu hr hkp d0
 go_wp2_with fail
 obtain ⟨v,hd⟩:=H1.out.2.2.2
 refine (rleave18 A1 hd HL.out.2.1 HL.out.2.2.1).mono ?_
 rintro e A2 ⟨v',u',rfl,hv',hu',hd2,hkD⟩
 obtain ⟨q4,q5,q6,rfl,hvn⟩:=hv'.slice;clear hvn
 obtain ⟨p4,p5,p6,rfl⟩:=hu'.slice
 have H2:Hid (MsgsOwn A2 A.heap.size (.slice q1 q2 q3) (leaveM s)/\MsgsOwn A2 A1.heap.size (.slice q4 q5 q6) (leaveM s)/\Rets A2 A.heap.size (.slice p1 p2 p3) (leaveL s)/\Rets A2 A1.heap.size (.slice p4 p5 p6) (leaveL s)/\Both w A2 n (i+1) (.pointer (some ⟨b,0,none⟩)) (.pointer (some ⟨k,0,none⟩))) :=
  ⟨keepD_msgs hkD H1.out.1,hv',keepD_rets hkD H1.out.2.1,hu',.inr ⟨b,k,cf,_,rfl,rfl,HL.out.1.next (runs_keepD H1.out.2.2.1 hkD (doc_gr hd2)) hd2 cst_leave⟩⟩
 clear hd hv' hu' hd2 hkD
 go_wp2_with fail
 refine (sameAll13 A2 _ _ _ _ _ H2.out.1 H2.out.2.1).mono ?_
 rintro e A3 ⟨rfl,hg⟩
 have H3:Hid (Rets A3 A.heap.size (.slice p1 p2 p3) (leaveL s)/\Rets A3 A1.heap.size (.slice p4 p5 p6) (leaveL s)/\Both w A3 n (i+1) (.pointer (some ⟨b,0,none⟩)) (.pointer (some ⟨k,0,none⟩))):=⟨H2.out.2.2.1.grown hg,H2.out.2.2.2.1.grown hg,H2.out.2.2.2.2.grown hg⟩
 clear hg H2
 go_wp2_with fail
 refine (sameReturns15 A3 _ _ _ _ _ H3.out.1 H3.out.2.1 HL.out.2.2.2).mono ?_
 rintro e A4 ⟨rfl,hg⟩
 have H4:Hid (Both w A4 n (i+1) (.pointer (some ⟨b,0,none⟩)) (.pointer (some ⟨k,0,none⟩))):=H3.out.2.2.grown hg
 clear hg
 go_wp2_with fail
 exact ⟨_,_,⟨rfl,rfl,rfl,rfl,rfl,rfl,rfl⟩,H4.out⟩
theorem sw3_5 (a:Act)(w A:World)(n:Int)(v2:Value)(b k:Nat)(i:Nat)(sb mb:Nat)(kd nn now:Int)(o0:Value)(z1:Option Addr)(z2 z3:Nat)(m:PMsg)(u1:Option Addr)(u2 u3:Nat)(v1:Option Addr)(v2' v3:Nat)(hi:i<1000000000000)
  (hU:U3 a (.int .i64 n) v2 (.pointer (some ⟨b,0,none⟩)) (.pointer (some ⟨k,0,none⟩)) (.int .i64 (i:Nat)) (.pointer (some ⟨sb,0,none⟩)) (.pointer (some ⟨mb,0,none⟩)) (.int .i64 now)) (hL:Liv w A b k cf s n i) (hM:Msg3 w A sb mb kd nn o0 z1 z2 z3 m u1 u2 u3 v1 v2' v3) (hkd:kd=5) :
  sw3.wp Tryz.prog (At4 (Sw3 w n v2 i)) a A:=by
 obtain ⟨t,sl0,sl2,sl7,sl9,sl10,sl11,sl12,sl13,rfl⟩:=hU.eq
 unfold row260
 rw [sl0,sl2,sl7,sl9,sl10,sl11,sl12,sl13]
 clear sl0 sl2 sl7 sl9 sl10 sl11 sl12 sl13
 obtain ⟨Q,F,oa,wo,wc,hrun⟩:=hL.run
 have HL:Hid (Liv w A b k cf s n i/\Run Q F w A b oa wo wc s/\s.last<1000000000000/\s.tok<=3999999999999992):=⟨hL,hrun,by have:=hL.lst;omega,by have:=hL.tok;omega⟩
 obtain ⟨d0,d1,d2,d15⟩:=hM.cells
 subst hkd
 clear hU hL hM d1 d2 d15 hi hrun
 unfold sw3 rest3 bd3 rnd3 b3
 dsimp only [Tryz.f3,Option.getD,cL,cR,cB,cW]
 go_wp2_with fail
 refine (copy19 A HL.out.2.1.cm).mono ?_
 rintro e A1 ⟨nb,F1,rfl,hcl,hg,hnew⟩
 have H1:Hid (Cl Q F1 A1 nb s/\A.grownBy A1 none/\∀i,F1 i->A.heap.size<=i):=⟨hcl,hg,hnew⟩
 clear hcl hg hnew d0
 go_wp2_with fail
 refine (call20 A1).mono ?_
 rintro e A2 ⟨ov,rfl,hsl,hov,hg⟩
 have H2:Hid ((∀y:World,(∀i,A1.heap.size<=i->i<A2.heap.size->y.heap[i]? = A2.heap[i]?)->Ops y ov putOps)/\A1.grownBy A2 none):=⟨hov,hg⟩
 obtain ⟨o1,o2,o3,rfl⟩:=hsl
 clear hov hg
 go_wp2_with fail
 refine (invoke9 A2 (.slice o1 o2 o3) putOps ((HL.out.2.1.cm.grown H1.out.2.1).grown H2.out.2) (fun y hy=>H2.out.1 y fun i h1 h2=>hy.block i h2 fun hF=>by
  have:=HL.out.2.1.cm.flt i hF
  have:=H1.out.2.1.size
  omega) HL.out.2.2.1).mono ?_
 rintro e A3 ⟨rfl,s',hs',hstp⟩
 have HS':Hid (s'.tok<=3999999999999992):=by
  have e:s'.tok=s.tok:=by
   rcases hs' with ⟨_,o,n,c,rfl⟩ | ⟨_,rfl⟩ <;> rfl
  have:=HL.out.2.2.2
  unfold Hid
  omega
 obtain ⟨Q3,F3,⟨oa3,wo3,wc3,hc3⟩,hf3,hF3,hQ3⟩:=hstp
 have H3:Hid (Cm Q3 F3 A3 b oa3 wo3 wc3 s'/\Fr A2 A3 F/\(∀i,F3 i->F i\/A2.heap.size<=i)/\(∀i,Q3 i->Q i\/A2.heap.size<=i)):=⟨hc3,hf3,hF3,hQ3⟩
 clear hs' hc3 hf3 hF3 hQ3
 go_wp2_with fail
 refine (leave17 A3 H3.out.1 HS'.out).mono ?_
 rintro e A4 ⟨v,u,rfl,_,_,hstp⟩
 have HZ:Hid (Both w A4 n (i+1) (.pointer (some ⟨nb,0,none⟩)) (.pointer (some ⟨k,0,none⟩))):=by
  obtain ⟨Q4,F4,hc4,hf4,hF4,hQ4⟩:=hstp
  have hrun:=HL.out.2.1
  have hcm2:=(hrun.cm.grown H1.out.2.1).grown H2.out.2
  have hs1:=H1.out.2.1.size
  have hs2:=H2.out.2.size
  have hs3:=H3.out.2.1.size
  have y2:Cl Q F1 A2 nb s:=H1.out.1.grown H2.out.2
  have f1:∀i,F1 i->i<A1.heap.size:=fun i hi=>by
   obtain ⟨x1,x2,x3,hc⟩:=H1.out.1
   exact hc.flt i hi
  have y3:Cl Q F1 A3 nb s:=y2.beside H3.out.2.1 (fun i hi hF=>by
   rcases hi with hi | hi
   ·have:=H1.out.2.2 i hi
    have:=hrun.cm.flt i hF
    omega
   ·exact hrun.cm.apart i hF hi) hcm2.gt
  have y4:Cl Q F1 A4 nb s:=y3.beside hf4 (fun i hi hF=>by
   rcases H3.out.2.2.1 i hF with hF | hF
   ·rcases hi with hi | hi
    ·have:=H1.out.2.2 i hi
     have:=hrun.cm.flt i hF
     omega
    ·exact hrun.cm.apart i hF hi
   ·rcases hi with hi | hi
    ·have:=f1 i hi
     omega
    ·have:=hrun.cm.qlt i hi
     omega) H3.out.1.gt
  have k1:Keep A A1:=keep_grown H1.out.2.1
  have k2:Keep A1 A2:=keep_grown H2.out.2
  have k3:Keep A2 A3:=H3.out.2.1.mono fun i hi=>hcm2.ft i hi
  have k4:Keep A3 A4:=hf4.mono fun i hi=>H3.out.1.ft i hi
  have fr:Fr A A4 F:=by
   have a1:Fr A A1 F:=Fr.of H1.out.2.1 (by simp)
   have a2:Fr A1 A2 F:=Fr.of H2.out.2 (by simp)
   refine Fr.trans (Fr.trans (Fr.trans a1 a2 fun i hi=>.inl hi) H3.out.2.1 fun i hi=>.inl hi) hf4 fun i hi=>?_
   rcases H3.out.2.2.1 i hi with h | h
   ·exact .inl h
   ·exact .inr (by omega)
  have gr:w.grownBy A4 none:=Fr.grown ((Fr.of (F:=F) hrun.gr (by simp)).trans fr fun i hi=>.inl hi) hrun.new
  obtain ⟨x1,x2,x3,hc⟩:=y4
  refine .inr ⟨nb,k,cf,s,rfl,rfl,HL.out.1.next ⟨Q,F1,x1,x2,x3,hc,gr,fun i hi=>?_⟩ (doc_keep HL.out.1.doc (keep_trans (keep_trans (keep_trans k1 k2) k3) k4) gr) cst_same⟩
  have:=H1.out.2.2 i hi
  have:=hrun.gr.size
  omega
 clear hstp
 go_wp2_with fail
 exact ⟨_,_,⟨rfl,rfl,rfl,rfl,rfl,rfl,rfl⟩,HZ.out⟩
theorem sw3_0 (a:Act)(w A:World)(n:Int)(v2:Value)(p7 p9:Value)(i:Nat)(sb mb:Nat)(kd nn now:Int)(o0:Value)(z1:Option Addr)(z2 z3:Nat)(m:PMsg)(u1:Option Addr)(u2 u3:Nat)(v1:Option Addr)(v2' v3:Nat)
  (hU:U3 a (.int .i64 n) v2 p7 p9 (.int .i64 (i:Nat)) (.pointer (some ⟨sb,0,none⟩)) (.pointer (some ⟨mb,0,none⟩)) (.int .i64 now)) (hB:Both w A n (i+1) p7 p9) (hM:Msg3 w A sb mb kd nn o0 z1 z2 z3 m u1 u2 u3 v1 v2' v3)
  (h1:kd≠1) (h2:kd≠2) (h3:kd≠3) (h4:kd≠4) (h5:kd≠5) (h6:kd≠6) (h7:kd≠7) (h8:kd≠8) :
  sw3.wp Tryz.prog (At4 (Sw3 w n v2 i)) a A:=by
 obtain ⟨t,sl0,sl2,sl7,sl9,sl10,sl11,sl12,sl13,rfl⟩:=hU.eq
 unfold row260
 rw [sl0,sl2,sl7,sl9,sl10,sl11,sl12,sl13]
 clear sl0 sl2 sl7 sl9 sl10 sl11 sl12 sl13
 have HB:Hid (Both w A n (i+1) p7 p9):=hB
 obtain ⟨d0,d1,d2,d15⟩:=hM.cells
 have e1:(kd==1)=false:=by rw [beq_eq_false_iff_ne];exact h1
 have e2:(kd==2)=false:=by rw [beq_eq_false_iff_ne];exact h2
 have e3:(kd==3)=false:=by rw [beq_eq_false_iff_ne];exact h3
 have e4:(kd==4)=false:=by rw [beq_eq_false_iff_ne];exact h4
 have e5:(kd==5)=false:=by rw [beq_eq_false_iff_ne];exact h5
 have e6:(kd==6)=false:=by rw [beq_eq_false_iff_ne];exact h6
 have e7:(kd==7)=false:=by rw [beq_eq_false_iff_ne];exact h7
 have e8:(kd==8)=false:=by rw [beq_eq_false_iff_ne];exact h8
 clear hU hB hM d1 d2 d15 h1 h2 h3 h4 h5 h6 h7 h8
 unfold sw3 rest3 bd3 rnd3 b3
 dsimp only [Tryz.f3,Option.getD,cL,cR,cB,cW]
 go_wp2_with fail
 exact ⟨_,_,⟨rfl,rfl,rfl,rfl,rfl,rfl,rfl⟩,HB.out⟩
variable {w A A':World} {b k:Nat} {s:CS} {cf:PCfg}
noncomputable def hr3:Code:=cT (cR (cE (cR (cE (cR (cB (cR sw3)))))))
noncomputable def tl3:Code:=cR (cR (cR hr3))
theorem hr3_eq:hr3=.seq (cL hr3) (.seq (cL (cR hr3)) (.seq (cL (cR (cR hr3))) tl3)):=rfl
structure V3 (a:Act)(v0 v2 v7 v9 v10 v12 v22:Value):Prop where
 size:a.tmps.size=260
 defers:a.defers=[]
 e0:sl a.tmps 0=v0
 e2:sl a.tmps 2=v2
 e7:sl a.tmps 7=v7
 e9:sl a.tmps 9=v9
 e10:sl a.tmps 10=v10
 e12:sl a.tmps 12=v12
 e22:sl a.tmps 22=v22
theorem V3.eq {a:Act}{v0 v2 v7 v9 v10 v12 v22:Value}(h:V3 a v0 v2 v7 v9 v10 v12 v22):∃f:Nat->Value,f 0=v0/\f 2=v2/\f 7=v7/\f 9=v9/\f 10=v10/\f 12=v12/\f 22=v22/\a={ tmps:=row260 f,defers:=[] }:=by
 obtain ⟨t,d⟩:=a
 have e:=t260 t h.size
 have e2:d=[]:=h.defers
 refine ⟨sl t,h.e0,h.e2,h.e7,h.e9,h.e10,h.e12,h.e22,?_⟩
 rw [e2]
 exact congrArg (fun x=>Act.mk x []) e
structure Ov (A W:World)(g n:Nat)(C:Array Value):Prop where
 gr:A.grownBy W (some g)
 blk:∃C',Blk W g 5 C'/\C'.size=C.size/\∀i,n<=i->C'[i]? = C[i]?
theorem Ov.refl {g n:Nat}{C:Array Value}(h:Blk A g 5 C):Ov A A g n C:=⟨grown_refl _ _,C,h,rfl,fun _ _=>rfl⟩
theorem Ov.put {W:World}{g n j:Nat}{C:Array Value}{y:Value}(h:Ov A W g n C)(hj:j<n):Ov A (W.setCell ⟨g,j,none⟩ y) g n C:=by
 obtain ⟨C',hb,hs,hc⟩:=h.blk
 refine ⟨grown_trans h.gr (grown_setCell _ _ _ _),_,hb.store j y,by simp [hs],fun i hi=>?_⟩
 rw [Array.getElem?_setIfInBounds_ne (by omega)]
 exact hc i hi
theorem Ov.at {W:World}{g n j:Nat}{C:Array Value}(h:Ov A W g n C)(hj:j<C.size):∃y,W.cell? ⟨g,j,none⟩=some y:=by
 obtain ⟨C',hb,hs,_⟩:=h.blk
 exact ⟨C'[j]'(by omega),by rw [hb.cell,Array.getElem?_eq_getElem (by omega)]⟩
theorem Ov.free {W:World}{g n:Nat}{C:Array Value}(h:Ov A W g n C)(j:Nat):W.frozen? ⟨g,j,none⟩=false:=by
 obtain ⟨C',hb,_⟩:=h.blk
 exact hb.free j
theorem ov_back {W:World}{g n:Nat}{C C':Array Value}{xs:List Value}(hb:Blk A g 5 C)(hC:C.toList.take n=xs)(hn:xs.length=n)(hg:A.grownBy W (some g))(hb':Blk W g 5 C')(_hs:C'.size=C.size)(hc:∀i,n<=i->C'[i]? = C[i]?) :
  A.grownBy (W.setRow g (C'.toList.take 0 ++ (xs ++ C'.toList.drop (0+xs.length))).toArray) none:=by
 have e:(C'.toList.take 0 ++ (xs ++ C'.toList.drop (0+xs.length))).toArray=C:=by
  apply Array.toList_inj.1
  have h1:C'.toList.drop n=C.toList.drop n:=by
   apply List.ext_getElem?
   intro i
   rw [List.getElem?_drop,List.getElem?_drop,Array.getElem?_toList,Array.getElem?_toList]
   exact hc _ (by omega)
  have h2:=List.take_append_drop n C.toList
  rw [hC] at h2
  simp only [List.take_zero,List.nil_append,Nat.zero_add,hn,h1]
  exact h2
 rw [e]
 have hr:=setRow_heap W g C' C 5 (0,0) hb'
 refine ⟨hg.os,hg.tape,hg.output,?_,fun i hi _=>?_⟩
 ·have:=hg.size
  simp [World.setRow]
  omega
 ·by_cases h:i=g
  ·subst h
   rw [hr]
   exact hb.symm
  ·rw [setRow_other W g i C h]
   exact hg.block i hi (by simp;omega)
theorem tail3 (a:Act)(w A0 W:World)(n:Int)(v2:Value)(b k:Nat)(i:Nat)(sb mb:Nat)(kd nn:Int)(o0:Value)(z1:Option Addr)(z2 z3:Nat)(m:PMsg)(u1:Option Addr)(u2 u3:Nat)(v1:Option Addr)(v2' v3:Nat)(r1:Option Addr)(r2 r3 B:Nat)(hi:i<1000000000000)
  (hV:V3 a (.int .i64 n) v2 (.pointer (some ⟨b,0,none⟩)) (.pointer (some ⟨k,0,none⟩)) (.int .i64 (i:Nat)) (.pointer (some ⟨mb,0,none⟩)) (.slice r1 r2 r3)) (hL:Liv w A0 b k cf s n i) (hM:Msg3 w W sb mb kd nn o0 z1 z2 z3 m u1 u2 u3 v1 v2' v3)
  (hr:Runs w W b (hearS s m)) (hd:Doc w W k cf s) (hR:Rets W B (.slice r1 r2 r3) (hearL s m)) :
  tl3.wp Tryz.prog (At4 (Sw3 w n v2 i)) a W:=by
 obtain ⟨t,sl0,sl2,sl7,sl9,sl10,sl12,sl22,rfl⟩:=hV.eq
 unfold row260
 rw [sl0,sl2,sl7,sl9,sl10,sl12,sl22]
 clear sl0 sl2 sl7 sl9 sl10 sl12 sl22
 have HL:Hid (Liv w A0 b k cf s n i/\Okc s/\s.tok<=3999999999999992/\(hearL s m).length<=1000000000000):=⟨hL,hL.run.ok,by have:=hL.tok;omega,by have:=hearL_len (s:=s) m;have:=hL.run.ok.last;omega⟩
 have HW:Hid (Msg3 w W sb mb kd nn o0 z1 z2 z3 m u1 u2 u3 v1 v2' v3/\Runs w W b (hearS s m)/\Doc w W k cf s/\Rets W B (.slice r1 r2 r3) (hearL s m)):=⟨hM,hr,hd,hR⟩
 obtain ⟨c0,c1,c2,c3,c4,c5,c6,c7,c8,c9,c10,c11,c12⟩:=MB.cells hM.mbk
 clear hV hL hM hr hd hR hi
 unfold tl3 hr3 sw3 rest3 bd3 rnd3 b3
 dsimp only [Tryz.f3,Option.getD,cL,cR,cB,cW,cT,cE]
 go_wp2_with fail
 obtain ⟨v,hd⟩:=HW.out.2.2.1
 refine (rhear16 W u1 u2 u3 v1 v2' v3 m hd HL.out.2.1 HW.out.1.ops.ops HW.out.1.ans.seg (by have:=HW.out.1.len;omega) HL.out.2.2.1).mono ?_
 rintro e A3 ⟨u',rfl,hu',hd',hkD⟩
 obtain ⟨p1,p2,p3,rfl⟩:=hu'.slice
 have H3:Hid (Rets A3 B (.slice r1 r2 r3) (hearL s m)/\Rets A3 W.heap.size (.slice p1 p2 p3) (hearL s m)/\Both w A3 n (i+1) (.pointer (some ⟨b,0,none⟩)) (.pointer (some ⟨k,0,none⟩))) :=
  ⟨keepD_rets hkD HW.out.2.2.2,hu',.inr ⟨b,k,cf,_,rfl,rfl,HL.out.1.next (runs_keepD HW.out.2.1 hkD (doc_gr hd')) hd' (cst_hear m)⟩⟩
 clear hd hu' hd' hkD c0 c1 c2 c3 c4 c5 c6 c7 c8 c9 c10 c11 c12
 go_wp2_with fail
 refine (sameReturns15 A3 _ _ _ _ _ H3.out.1 H3.out.2.1 HL.out.2.2.2).mono ?_
 rintro e A4 ⟨rfl,hg⟩
 have H4:Hid (Both w A4 n (i+1) (.pointer (some ⟨b,0,none⟩)) (.pointer (some ⟨k,0,none⟩))):=H3.out.2.2.grown hg
 clear hg
 go_wp2_with fail
 exact ⟨_,_,⟨rfl,rfl,rfl,rfl,rfl,rfl,rfl⟩,H4.out⟩
theorem hear3_7 (a:Act)(w A:World)(n:Int)(v2:Value)(p7 p9:Option Addr)(i:Nat)(sb mb:Nat)(kd nn now:Int)(o0:Value)(z1:Option Addr)(z2 z3:Nat)(m:PMsg)(u1:Option Addr)(u2 u3:Nat)(v1:Option Addr)(v2' v3:Nat)
  (hU:U3 a (.int .i64 n) v2 (.pointer p7) (.pointer p9) (.int .i64 (i:Nat)) (.pointer (some ⟨sb,0,none⟩)) (.pointer (some ⟨mb,0,none⟩)) (.int .i64 now)) (P:World->Value->Prop) (hP:∀W W' u,P W u->W.grownBy W' none->P W' u) (hM:Msg3 w A sb mb kd nn o0 z1 z2 z3 m u1 u2 u3 v1 v2' v3) (hC:Calls Tryz.prog 14 #[.pointer p7,msgV (.slice u1 u2 u3) (.slice v1 v2' v3) m] A fun e A1=>∃r1 r2 r3,e=.returned (.slice r1 r2 r3)/\Keep A A1/\w.grownBy A1 none/\P A1 (.slice r1 r2 r3)) (hkd:kd=7) (h7:m.tell.answer=[])
  (REST:Code) (Q:Exit->Act->World->Prop) (hk:∀a' W r1 r2 r3,V3 a' (.int .i64 n) v2 (.pointer p7) (.pointer p9) (.int .i64 (i:Nat)) (.pointer (some ⟨mb,0,none⟩)) (.slice r1 r2 r3)->Msg3 w W sb mb kd nn o0 z1 z2 z3 m u1 u2 u3 v1 v2' v3->w.grownBy W none->P W (.slice r1 r2 r3)->REST.wp Tryz.prog Q a' W) :
  (Code.seq (cL hr3) (.seq (cL (cR hr3)) (.seq (cL (cR (cR hr3))) REST))).wp Tryz.prog Q a A:=by
 obtain ⟨t,sl0,sl2,sl7,sl9,sl10,sl11,sl12,sl13,rfl⟩:=hU.eq
 unfold row260
 rw [sl0,sl2,sl7,sl9,sl10,sl11,sl12,sl13]
 clear sl0 sl2 sl7 sl9 sl10 sl11 sl12 sl13
 have HK:Hid (∀a' W r1 r2 r3,V3 a' (.int .i64 n) v2 (.pointer p7) (.pointer p9) (.int .i64 (i:Nat)) (.pointer (some ⟨mb,0,none⟩)) (.slice r1 r2 r3)->Msg3 w W sb mb kd nn o0 z1 z2 z3 m u1 u2 u3 v1 v2' v3->w.grownBy W none->P W (.slice r1 r2 r3)->REST.wp Tryz.prog Q a' W):=hk
 have HM:Hid (Msg3 w A sb mb kd nn o0 z1 z2 z3 m u1 u2 u3 v1 v2' v3/\Calls Tryz.prog 14 #[.pointer p7,msgV (.slice u1 u2 u3) (.slice v1 v2' v3) m] A fun e A1=>∃r1 r2 r3,e=.returned (.slice r1 r2 r3)/\Keep A A1/\w.grownBy A1 none/\P A1 (.slice r1 r2 r3)):=⟨hM,hC⟩
 have HPP:Hid (∀W W' u,P W u->W.grownBy W' none->P W' u):=hP
 obtain ⟨c0,c1,c2,c3,c4,c5,c6,c7,c8,c9,c10,c11,c12⟩:=MB.cells hM.mbk
 have hv:v2'=0:=by
  rcases hM.ans.shape with ⟨e,_⟩ | ⟨g,cap,e,_⟩
  ·simp at e;exact e.2.1
  ·rw [h7] at e;simp at e;exact e.2.1
 subst hv
 subst hkd
 clear h7
 clear hU hM hk hC hP
 unfold hr3 sw3 rest3 bd3 rnd3 b3
 dsimp only [Tryz.f3,Option.getD,cL,cR,cB,cW,cT,cE]
 go_wp2_with fail
 refine HM.out.2.mono ?_
 rintro e A1 ⟨r1,r2,r3,rfl,hkp,hg,hp⟩
 have H1:Hid (Msg3 w A1 sb mb 7 nn o0 z1 z2 z3 m u1 u2 u3 v1 0 v3/\w.grownBy A1 none/\P A1 (.slice r1 r2 r3)):=⟨HM.out.1.keep hkp,hg,hp⟩
 clear hkp hg hp c0 c1 c2 c3 c4 c5 c6 c7 c8 c9 c10 c11 c12
 have c12:A1.cell? ⟨mb,12,none⟩=some (.slice v1 0 v3):=(MB.cells H1.out.1.mbk).2.2.2.2.2.2.2.2.2.2.2.2
 go_wp2_with fail
 go_loopw [23] (fun q wr=>q=.int .i64 0/\Hid (wr=A1)) (fun q _=>0)
 case atStart=>exact ⟨rfl,rfl⟩
 case round =>
  obtain ⟨rfl,hw⟩:=hrel
  have hw':wr=A1:=hw
  subst hw'
  clear hw
  have d0:=H1.out.1.cells.1
  go_wp2_with fail
  exact HK.out _ wr r1 r2 r3 ⟨rfl,rfl,rfl,rfl,rfl,rfl,rfl,rfl,rfl⟩ H1.out.1 H1.out.2.1 H1.out.2.2
theorem hear3_0 (a:Act)(w A:World)(n:Int)(v2:Value)(p7 p9:Option Addr)(i:Nat)(sb mb:Nat)(kd nn now:Int)(o0:Value)(z1:Option Addr)(z2 z3:Nat)(m:PMsg)(u1:Option Addr)(u2 u3:Nat)(v1:Option Addr)(v2' v3:Nat)
  (hU:U3 a (.int .i64 n) v2 (.pointer p7) (.pointer p9) (.int .i64 (i:Nat)) (.pointer (some ⟨sb,0,none⟩)) (.pointer (some ⟨mb,0,none⟩)) (.int .i64 now)) (P:World->Value->Prop) (hP:∀W W' u,P W u->W.grownBy W' none->P W' u) (hM:Msg3 w A sb mb kd nn o0 z1 z2 z3 m u1 u2 u3 v1 v2' v3) (hC:Calls Tryz.prog 14 #[.pointer p7,msgV (.slice u1 u2 u3) (.slice v1 v2' v3) m] A fun e A1=>∃r1 r2 r3,e=.returned (.slice r1 r2 r3)/\Keep A A1/\w.grownBy A1 none/\P A1 (.slice r1 r2 r3)) (hkd:kd≠7) (h7:m.tell.answer=[])
  (REST:Code) (Q:Exit->Act->World->Prop) (hk:∀a' W r1 r2 r3,V3 a' (.int .i64 n) v2 (.pointer p7) (.pointer p9) (.int .i64 (i:Nat)) (.pointer (some ⟨mb,0,none⟩)) (.slice r1 r2 r3)->Msg3 w W sb mb kd nn o0 z1 z2 z3 m u1 u2 u3 v1 v2' v3->w.grownBy W none->P W (.slice r1 r2 r3)->REST.wp Tryz.prog Q a' W) :
  (Code.seq (cL hr3) (.seq (cL (cR hr3)) (.seq (cL (cR (cR hr3))) REST))).wp Tryz.prog Q a A:=by
 obtain ⟨t,sl0,sl2,sl7,sl9,sl10,sl11,sl12,sl13,rfl⟩:=hU.eq
 unfold row260
 rw [sl0,sl2,sl7,sl9,sl10,sl11,sl12,sl13]
 clear sl0 sl2 sl7 sl9 sl10 sl11 sl12 sl13
 have HK:Hid (∀a' W r1 r2 r3,V3 a' (.int .i64 n) v2 (.pointer p7) (.pointer p9) (.int .i64 (i:Nat)) (.pointer (some ⟨mb,0,none⟩)) (.slice r1 r2 r3)->Msg3 w W sb mb kd nn o0 z1 z2 z3 m u1 u2 u3 v1 v2' v3->w.grownBy W none->P W (.slice r1 r2 r3)->REST.wp Tryz.prog Q a' W):=hk
 have HM:Hid (Msg3 w A sb mb kd nn o0 z1 z2 z3 m u1 u2 u3 v1 v2' v3/\Calls Tryz.prog 14 #[.pointer p7,msgV (.slice u1 u2 u3) (.slice v1 v2' v3) m] A fun e A1=>∃r1 r2 r3,e=.returned (.slice r1 r2 r3)/\Keep A A1/\w.grownBy A1 none/\P A1 (.slice r1 r2 r3)):=⟨hM,hC⟩
 have HPP:Hid (∀W W' u,P W u->W.grownBy W' none->P W' u):=hP
 obtain ⟨c0,c1,c2,c3,c4,c5,c6,c7,c8,c9,c10,c11,c12⟩:=MB.cells hM.mbk
 have hv:v2'=0:=by
  rcases hM.ans.shape with ⟨e,_⟩ | ⟨g,cap,e,_⟩
  ·simp at e;exact e.2.1
  ·rw [h7] at e;simp at e;exact e.2.1
 subst hv
 have e7:(kd != 7)=true:=by simp;exact hkd
 clear h7 hkd
 clear hU hM hk hC hP
 unfold hr3 sw3 rest3 bd3 rnd3 b3
 dsimp only [Tryz.f3,Option.getD,cL,cR,cB,cW,cT,cE]
 go_wp2_with fail
 refine HM.out.2.mono ?_
 rintro e A1 ⟨r1,r2,r3,rfl,hkp,hg,hp⟩
 have H1:Hid (Msg3 w A1 sb mb kd nn o0 z1 z2 z3 m u1 u2 u3 v1 0 v3/\w.grownBy A1 none/\P A1 (.slice r1 r2 r3)):=⟨HM.out.1.keep hkp,hg,hp⟩
 clear hkp hg hp c0 c1 c2 c3 c4 c5 c6 c7 c8 c9 c10 c11 c12
 have c12:A1.cell? ⟨mb,12,none⟩=some (.slice v1 0 v3):=(MB.cells H1.out.1.mbk).2.2.2.2.2.2.2.2.2.2.2.2
 go_wp2_with fail
 go_loopw [23] (fun q wr=>q=.int .i64 0/\Hid (wr=A1)) (fun q _=>0)
 case atStart=>exact ⟨rfl,rfl⟩
 case round =>
  obtain ⟨rfl,hw⟩:=hrel
  have hw':wr=A1:=hw
  subst hw'
  clear hw
  have d0:=H1.out.1.cells.1
  have d15:=H1.out.1.cells.2.2.2
  have hcp:=run_copy_none (P:=Tryz.prog) wr 41 41 3 5 v1 z1 0 v3 z2 z3 Tryz.underlying41 (by kernel_rfl) (by simp)
  go_wp2_with fail
  exact HK.out _ wr r1 r2 r3 ⟨rfl,rfl,rfl,rfl,rfl,rfl,rfl,rfl,rfl⟩ H1.out.1 H1.out.2.1 H1.out.2.2
theorem hear3_n (a:Act)(w A:World)(n:Int)(v2:Value)(p7 p9:Option Addr)(i:Nat)(sb mb:Nat)(kd nn now:Int)(o0:Value)(z1:Option Addr)(z2 z3:Nat)(m:PMsg)(u1:Option Addr)(u2 u3:Nat)(v1:Option Addr)(v2' v3:Nat)
  (hU:U3 a (.int .i64 n) v2 (.pointer p7) (.pointer p9) (.int .i64 (i:Nat)) (.pointer (some ⟨sb,0,none⟩)) (.pointer (some ⟨mb,0,none⟩)) (.int .i64 now)) (P:World->Value->Prop) (hP:∀W W' u,P W u->W.grownBy W' none->P W' u) (hM:Msg3 w A sb mb kd nn o0 z1 z2 z3 m u1 u2 u3 v1 v2' v3) (hC:Calls Tryz.prog 14 #[.pointer p7,msgV (.slice u1 u2 u3) (.slice v1 v2' v3) m] A fun e A1=>∃r1 r2 r3,e=.returned (.slice r1 r2 r3)/\Keep A A1/\w.grownBy A1 none/\P A1 (.slice r1 r2 r3)) (hkd:kd≠7) (g:Nat) (hg:v1=some ⟨g,0,none⟩) (hn:v2'=m.tell.answer.length) (hp:0<v2')
  (REST:Code) (Q:Exit->Act->World->Prop) (hk:∀a' W r1 r2 r3,V3 a' (.int .i64 n) v2 (.pointer p7) (.pointer p9) (.int .i64 (i:Nat)) (.pointer (some ⟨mb,0,none⟩)) (.slice r1 r2 r3)->Msg3 w W sb mb kd nn o0 z1 z2 z3 m u1 u2 u3 v1 v2' v3->w.grownBy W none->P W (.slice r1 r2 r3)->REST.wp Tryz.prog Q a' W) :
  (Code.seq (cL hr3) (.seq (cL (cR hr3)) (.seq (cL (cR (cR hr3))) REST))).wp Tryz.prog Q a A:=by
 obtain ⟨t,sl0,sl2,sl7,sl9,sl10,sl11,sl12,sl13,rfl⟩:=hU.eq
 unfold row260
 rw [sl0,sl2,sl7,sl9,sl10,sl11,sl12,sl13]
 clear sl0 sl2 sl7 sl9 sl10 sl11 sl12 sl13
 have HK:Hid (∀a' W r1 r2 r3,V3 a' (.int .i64 n) v2 (.pointer p7) (.pointer p9) (.int .i64 (i:Nat)) (.pointer (some ⟨mb,0,none⟩)) (.slice r1 r2 r3)->Msg3 w W sb mb kd nn o0 z1 z2 z3 m u1 u2 u3 v1 v2' v3->w.grownBy W none->P W (.slice r1 r2 r3)->REST.wp Tryz.prog Q a' W):=hk
 have HM:Hid (Msg3 w A sb mb kd nn o0 z1 z2 z3 m u1 u2 u3 v1 v2' v3/\Calls Tryz.prog 14 #[.pointer p7,msgV (.slice u1 u2 u3) (.slice v1 v2' v3) m] A fun e A1=>∃r1 r2 r3,e=.returned (.slice r1 r2 r3)/\Keep A A1/\w.grownBy A1 none/\P A1 (.slice r1 r2 r3)):=⟨hM,hC⟩
 have HPP:Hid (∀W W' u,P W u->W.grownBy W' none->P W' u):=hP
 obtain ⟨c0,c1,c2,c3,c4,c5,c6,c7,c8,c9,c10,c11,c12⟩:=MB.cells hM.mbk
 subst hg
 have e7:(kd != 7)=true:=by simp;exact hkd
 have HKN:Hid (kd≠7/\v2'=m.tell.answer.length/\0<v2'/\v2'<=140737488351232):=⟨hkd,hn,hp,by have:=hM.len;omega⟩
 clear hkd hn hp
 clear hU hM hk hC hP
 unfold hr3 sw3 rest3 bd3 rnd3 b3
 dsimp only [Tryz.f3,Option.getD,cL,cR,cB,cW,cT,cE]
 go_wp2_with fail
 refine HM.out.2.mono ?_
 rintro e A1 ⟨r1,r2,r3,rfl,hkp,hg,hp⟩
 have H1:Hid (Msg3 w A1 sb mb kd nn o0 z1 z2 z3 m u1 u2 u3 (some ⟨g,0,none⟩) v2' v3/\w.grownBy A1 none/\P A1 (.slice r1 r2 r3)):=⟨HM.out.1.keep hkp,hg,hp⟩
 clear hkp hg hp c0 c1 c2 c3 c4 c5 c6 c7 c8 c9 c10 c11 c12
 have c12:A1.cell? ⟨mb,12,none⟩=some (.slice (some ⟨g,0,none⟩) v2' v3):=(MB.cells H1.out.1.mbk).2.2.2.2.2.2.2.2.2.2.2.2
 have HB:Hid (∃C:Array Value,Blk A1 g 5 C/\v2'<=C.size/\C.toList.take v2'=BV m.tell.answer):=by
  obtain ⟨_,h⟩:=H1.out.1.ans
  rcases h with ⟨e,_⟩ | ⟨g',cap',cur,e,_,hb,q1,_,q2,q3⟩
  ·simp at e
  ·simp at e
   obtain ⟨rfl,e2,rfl⟩:=e
   refine ⟨cur,hb,by rw [q2,e2];omega,?_⟩
   rw [<-q3,e2,Nat.mul_one]
 obtain ⟨C,hC⟩:=HB.out
 have HC:Hid (Blk A1 g 5 C/\v2'<=C.size/\C.toList.take v2'=BV m.tell.answer):=hC
 clear hC HB
 go_wp2_with fail
 go_loopw [23] (fun q wr=>∃j:Nat,q=.int .i64 (j:Nat)/\j<=v2'/\Hid (Ov A1 wr g v2' C)) (fun q _=>v2'-(intOf q).toNat)
 case atStart=>exact ⟨0,rfl,Nat.zero_le _,Ov.refl HC.out.1⟩
 case round =>
  obtain ⟨j,rfl,hj,G⟩:=hrel
  have HMB:Hid (A1.grownBy wr (some g)/\Blk wr mb 45 _):=⟨G.out.gr,(show Blk A1 mb 45 _ from H1.out.1.mbk).grown G.out.gr (by
   simp
   rintro rfl
   exact absurd (blk_type HC.out.1 H1.out.1.mbk) (by decide))⟩
  replace c12:wr.cell? ⟨mb,12,none⟩=some (.slice (some ⟨g,0,none⟩) v2' v3):=HMB.out.2.cell 12
  by_cases hlt:j<v2'
  ·have i1:(j:Int)<(v2':Int):=by omega
   have i2:(0:Int)<=(j:Int):=by omega
   have HLJ:Hid (j<v2'):=hlt
   have d1:IntKind.i64.wrap ((j:Int)+1)=(j:Int)+1:=by have:=HKN.out;rw [IntKind.wrap_i64];omega
   obtain ⟨y,q0⟩:=G.out.at (j:=j) (by have:=HC.out.2.1;omega)
   have q1:=G.out.free j
   have G2:Hid (Ov A1 (wr.setCell ⟨g,j,none⟩ (.int .u8 99)) g v2' C):=G.out.put HLJ.out
   clear hlt hj
   go_wp2_with fail
   generalize wr.setCell ⟨g,j,none⟩ (.int .u8 99)=w2 at G2 ⊢
   go_roundw
   case rel=>exact ⟨j+1,by go_num,by have:=HLJ.out;omega,G2.out⟩
   case measure=>have:=HLJ.out;simp [intOf];omega
  ·have i1:¬(j:Int)<(v2':Int):=by omega
   obtain ⟨⟨CS,hsb,y0,y1,y2,y15⟩,_⟩:=id H1.out.1
   have hsb':Blk wr sb 47 CS:=hsb.grown HMB.out.1 (by
    simp
    rintro rfl
    exact absurd (blk_type HC.out.1 hsb) (by decide))
   have d0:wr.cell? ⟨sb,0,none⟩=some (.int .i64 kd):=by rw [hsb'.cell];exact y0
   have d15:wr.cell? ⟨sb,15,none⟩=some (.slice z1 z2 z3):=by rw [hsb'.cell];exact y15
   obtain ⟨C',hb',hs',hc'⟩:=G.out.blk
   have hsrc:=(H1.out.1.src HKN.out.1).grown H1.out.2.1
   obtain ⟨ad,hz1,hz2⟩:∃ad,z1=some ad/\z2=m.tell.answer.length:=by
    obtain ⟨ao,cap,e,_,_,_,h⟩:=hsrc
    simp at e
    obtain ⟨rfl,rfl,rfl⟩:=e
    have h0:=HKN.out
    obtain ⟨bb,off,e,_⟩:=h 0 (by omega)
    exact ⟨_,e,rfl⟩
   subst hz1
   subst hz2
   have HSRC:Hid (Seg A1 (.slice (some ad) m.tell.answer.length z3) m.tell.answer):=hsrc
   have HSW:Hid (∀j u,(BV m.tell.answer)[j]? = some u->wr.cell? (ad.add j)=some u):=by
    have hw:=(H1.out.1.src HKN.out.1).grown (show w.grownBy wr none from grown_new H1.out.2.1 G.out.gr (by
     intro x hx
     simp at hx
     subst hx
     have hl:=H1.out.1.ans
     exact (World.ownsRow.lt hl g rfl).1))
    exact (seg_news hw).2
   have HBK:Hid (A1.grownBy (wr.setRow g (C'.toList.take 0 ++ (BV m.tell.answer ++ C'.toList.drop (0+(BV m.tell.answer).length))).toArray) none):=ov_back HC.out.1 HC.out.2.2 (by rw [show (BV m.tell.answer).length=m.tell.answer.length by simp [BV]];exact HKN.out.2.1.symm) G.out.gr hb' hs' hc'
   have HC':Hid (Blk wr g 5 C'/\C'.size=C.size):=⟨hb',hs'⟩
   clear hlt hj hsrc hsb hsb' y0 y1 y2 y15 hb' hs' hc'
   have hcp:=run_copy_row (P:=Tryz.prog) wr 41 41 3 5 g 0 v2' v3 ad m.tell.answer.length z3 C' 5 (BV m.tell.answer) Tryz.underlying41 (by kernel_rfl) HC'.out.1 (by have:=HKN.out.2.1;show (BV m.tell.answer).length=min m.tell.answer.length v2';simp [BV];omega) HSW.out (by have:=HC'.out.2;have:=HC.out.2.1;have:=HKN.out.2.1;simp [BV];omega) (by
    intro x hx
    obtain ⟨y,_,rfl⟩:=List.mem_map.1 hx
    rfl)
   rw [List.append_assoc] at hcp
   obtain ⟨wz,hwz⟩:∃x,wr.setRow g (C'.toList.take 0 ++ (BV m.tell.answer ++ C'.toList.drop (0+(BV m.tell.answer).length))).toArray=x:=⟨_,rfl⟩
   rw [hwz] at HBK hcp
   clear hwz
   go_wp2_with fail
   clear c12 d0 d15 i1
   exact HK.out _ wz r1 r2 r3 ⟨rfl,rfl,rfl,rfl,rfl,rfl,rfl,rfl,rfl⟩ (H1.out.1.grown HBK.out) (grown_trans H1.out.2.1 HBK.out) (HPP.out _ _ _ H1.out.2.2 HBK.out)
theorem hear3_d (a:Act)(w A:World)(n:Int)(v2:Value)(p7 p9:Option Addr)(i:Nat)(sb mb:Nat)(kd nn now:Int)(o0:Value)(z1:Option Addr)(z2 z3:Nat)(m:PMsg)(u1:Option Addr)(u2 u3:Nat)(v1:Option Addr)(v2' v3:Nat)
  (hU:U3 a (.int .i64 n) v2 (.pointer p7) (.pointer p9) (.int .i64 (i:Nat)) (.pointer (some ⟨sb,0,none⟩)) (.pointer (some ⟨mb,0,none⟩)) (.int .i64 now)) (P:World->Value->Prop) (hPW:∀{W W':World} {u:Value},P W u->P W' u) (hP:∀W W' u,P W u->W.grownBy W' none->P W' u) (hM:Msg3 w A sb mb kd nn o0 z1 z2 z3 m u1 u2 u3 v1 v2' v3) (hC:Calls Tryz.prog 14 #[.pointer p7,msgV (.slice u1 u2 u3) (.slice v1 v2' v3) m] A fun e A1=>∃r1 r2 r3,e=.returned (.slice r1 r2 r3)/\Keep A A1/\w.grownBy A1 none/\P A1 (.slice r1 r2 r3)) (hkd:kd=7) (g:Nat) (hg:v1=some ⟨g,0,none⟩) (hn:v2'=m.tell.answer.length) (hp:0<v2')
  (REST:Code) (Q:Exit->Act->World->Prop) (hk:∀a' W r1 r2 r3,V3 a' (.int .i64 n) v2 (.pointer p7) (.pointer p9) (.int .i64 (i:Nat)) (.pointer (some ⟨mb,0,none⟩)) (.slice r1 r2 r3)->MB W mb (.slice u1 u2 u3) (.slice v1 v2' v3) m->w.grownBy W none->P W (.slice r1 r2 r3)->REST.wp Tryz.prog Q a' W) :
  (Code.seq (cL hr3) (.seq (cL (cR hr3)) (.seq (cL (cR (cR hr3))) REST))).wp Tryz.prog Q a A:=by
 obtain ⟨t,sl0,sl2,sl7,sl9,sl10,sl11,sl12,sl13,rfl⟩:=hU.eq
 unfold row260
 rw [sl0,sl2,sl7,sl9,sl10,sl11,sl12,sl13]
 clear sl0 sl2 sl7 sl9 sl10 sl11 sl12 sl13
 have HK:Hid (∀a' W r1 r2 r3,V3 a' (.int .i64 n) v2 (.pointer p7) (.pointer p9) (.int .i64 (i:Nat)) (.pointer (some ⟨mb,0,none⟩)) (.slice r1 r2 r3)->MB W mb (.slice u1 u2 u3) (.slice v1 v2' v3) m->w.grownBy W none->P W (.slice r1 r2 r3)->REST.wp Tryz.prog Q a' W):=hk
 have HM:Hid (Msg3 w A sb mb kd nn o0 z1 z2 z3 m u1 u2 u3 v1 v2' v3/\Calls Tryz.prog 14 #[.pointer p7,msgV (.slice u1 u2 u3) (.slice v1 v2' v3) m] A fun e A1=>∃r1 r2 r3,e=.returned (.slice r1 r2 r3)/\Keep A A1/\w.grownBy A1 none/\P A1 (.slice r1 r2 r3)):=⟨hM,hC⟩
 have HPW:Hid (∀(W W':World) (u:Value),P W u->P W' u):=fun _ _ _ h=>hPW h
 clear hPW
 have HPP:Hid (∀W W' u,P W u->W.grownBy W' none->P W' u):=hP
 obtain ⟨c0,c1,c2,c3,c4,c5,c6,c7,c8,c9,c10,c11,c12⟩:=MB.cells hM.mbk
 subst hg
 have HKN:Hid (kd=7/\v2'=m.tell.answer.length/\0<v2'/\v2'<=140737488351232):=⟨hkd,hn,hp,by have:=hM.len;omega⟩
 subst hkd
 clear hn hp
 clear hU hM hk hC hP
 unfold hr3 sw3 rest3 bd3 rnd3 b3
 dsimp only [Tryz.f3,Option.getD,cL,cR,cB,cW,cT,cE]
 go_wp2_with fail
 refine HM.out.2.mono ?_
 rintro e A1 ⟨r1,r2,r3,rfl,hkp,hg,hp⟩
 have H1:Hid (Msg3 w A1 sb mb 7 nn o0 z1 z2 z3 m u1 u2 u3 (some ⟨g,0,none⟩) v2' v3/\w.grownBy A1 none/\P A1 (.slice r1 r2 r3)):=⟨HM.out.1.keep hkp,hg,hp⟩
 clear hkp hg hp c0 c1 c2 c3 c4 c5 c6 c7 c8 c9 c10 c11 c12
 have c12:A1.cell? ⟨mb,12,none⟩=some (.slice (some ⟨g,0,none⟩) v2' v3):=(MB.cells H1.out.1.mbk).2.2.2.2.2.2.2.2.2.2.2.2
 have HB:Hid (∃C:Array Value,Blk A1 g 5 C/\v2'<=C.size/\C.toList.take v2'=BV m.tell.answer):=by
  obtain ⟨_,h⟩:=H1.out.1.ans
  rcases h with ⟨e,_⟩ | ⟨g',cap',cur,e,_,hb,q1,_,q2,q3⟩
  ·simp at e
  ·simp at e
   obtain ⟨rfl,e2,rfl⟩:=e
   refine ⟨cur,hb,by rw [q2,e2];omega,?_⟩
   rw [<-q3,e2,Nat.mul_one]
 obtain ⟨C,hC⟩:=HB.out
 have HC:Hid (Blk A1 g 5 C/\v2'<=C.size/\C.toList.take v2'=BV m.tell.answer):=hC
 clear hC HB
 go_wp2_with fail
 go_loopw [23] (fun q wr=>∃j:Nat,q=.int .i64 (j:Nat)/\j<=v2'/\Hid (Ov A1 wr g v2' C)) (fun q _=>v2'-(intOf q).toNat)
 case atStart=>exact ⟨0,rfl,Nat.zero_le _,Ov.refl HC.out.1⟩
 case round =>
  obtain ⟨j,rfl,hj,G⟩:=hrel
  have HMB:Hid (A1.grownBy wr (some g)/\Blk wr mb 45 _):=⟨G.out.gr,(show Blk A1 mb 45 _ from H1.out.1.mbk).grown G.out.gr (by
   simp
   rintro rfl
   exact absurd (blk_type HC.out.1 H1.out.1.mbk) (by decide))⟩
  replace c12:wr.cell? ⟨mb,12,none⟩=some (.slice (some ⟨g,0,none⟩) v2' v3):=HMB.out.2.cell 12
  by_cases hlt:j<v2'
  ·have i1:(j:Int)<(v2':Int):=by omega
   have i2:(0:Int)<=(j:Int):=by omega
   have HLJ:Hid (j<v2'):=hlt
   have d1:IntKind.i64.wrap ((j:Int)+1)=(j:Int)+1:=by have:=HKN.out;rw [IntKind.wrap_i64];omega
   obtain ⟨y,q0⟩:=G.out.at (j:=j) (by have:=HC.out.2.1;omega)
   have q1:=G.out.free j
   have G2:Hid (Ov A1 (wr.setCell ⟨g,j,none⟩ (.int .u8 99)) g v2' C):=G.out.put HLJ.out
   clear hlt hj
   go_wp2_with fail
   generalize wr.setCell ⟨g,j,none⟩ (.int .u8 99)=w2 at G2 ⊢
   go_roundw
   case rel=>exact ⟨j+1,by go_num,by have:=HLJ.out;omega,G2.out⟩
   case measure=>have:=HLJ.out;simp [intOf];omega
  ·have i1:¬(j:Int)<(v2':Int):=by omega
   obtain ⟨⟨CS,hsb,y0,y1,y2,y15⟩,_⟩:=id H1.out.1
   have hsb':Blk wr sb 47 CS:=hsb.grown HMB.out.1 (by
    simp
    rintro rfl
    exact absurd (blk_type HC.out.1 hsb) (by decide))
   have d0:wr.cell? ⟨sb,0,none⟩=some (.int .i64 7):=by rw [hsb'.cell];exact y0
   have d15:wr.cell? ⟨sb,15,none⟩=some (.slice z1 z2 z3):=by rw [hsb'.cell];exact y15
   have HG:Hid (w.grownBy wr none/\MB wr mb (.slice u1 u2 u3) (.slice (some ⟨g,0,none⟩) v2' v3) m):=⟨grown_new H1.out.2.1 G.out.gr (by
     intro x hx
     simp at hx
     subst hx
     have hl:=H1.out.1.ans
     exact (World.ownsRow.lt hl g rfl).1),HMB.out.2⟩
   clear hlt hj hsb hsb' y0 y1 y2 y15
   go_wp2_with fail
   exact HK.out _ wr r1 r2 r3 ⟨rfl,rfl,rfl,rfl,rfl,rfl,rfl,rfl,rfl⟩ HG.out.2 HG.out.1 (HPW.out _ _ _ H1.out.2.2)
variable {w A A':World} {b k:Nat} {s:CS} {cf:PCfg}
noncomputable def x3:Code:=cB (cR sw3)
noncomputable def e3:Code:=cE (cR x3)
noncomputable def g3:Code:=cE (cR e3)
theorem sw3_form:sw3=.seq (cL sw3) (.block 2 (.seq (cL x3) (.cond (.tmp 133) (cT (cR x3)) (.seq (cL e3) (.cond (.tmp 157) (cT (cR e3)) (.seq (cL g3) (.cond (.tmp 181) hr3 (cE (cR g3))))))))):=rfl
theorem to_hear (a:Act)(w A:World)(n:Int)(v2:Value)(p7 p9:Value)(i:Nat)(sb mb:Nat)(kd nn now:Int)(o0:Value)(z1:Option Addr)(z2 z3:Nat)(m:PMsg)(u1:Option Addr)(u2 u3:Nat)(v1:Option Addr)(v2' v3:Nat)
  (hU:U3 a (.int .i64 n) v2 p7 p9 (.int .i64 (i:Nat)) (.pointer (some ⟨sb,0,none⟩)) (.pointer (some ⟨mb,0,none⟩)) (.int .i64 now)) (hM:Msg3 w A sb mb kd nn o0 z1 z2 z3 m u1 u2 u3 v1 v2' v3) (hkd:kd=3\/kd=6\/kd=7)
  (HR:Code) (P:Act->World->Prop) (hk:∀a',U3 a' (.int .i64 n) v2 p7 p9 (.int .i64 (i:Nat)) (.pointer (some ⟨sb,0,none⟩)) (.pointer (some ⟨mb,0,none⟩)) (.int .i64 now)->HR.wp Tryz.prog (At4 P) a' A) :
  (Code.seq (cL sw3) (.block 2 (.seq (cL x3) (.cond (.tmp 133) (cT (cR x3)) (.seq (cL e3) (.cond (.tmp 157) (cT (cR e3)) (.seq (cL g3) (.cond (.tmp 181) HR (cE (cR g3)))))))))).wp Tryz.prog (At4 P) a A:=by
 obtain ⟨t,sl0,sl2,sl7,sl9,sl10,sl11,sl12,sl13,rfl⟩:=hU.eq
 unfold row260
 rw [sl0,sl2,sl7,sl9,sl10,sl11,sl12,sl13]
 clear sl0 sl2 sl7 sl9 sl10 sl11 sl12 sl13
 have HK:Hid (∀a',U3 a' (.int .i64 n) v2 p7 p9 (.int .i64 (i:Nat)) (.pointer (some ⟨sb,0,none⟩)) (.pointer (some ⟨mb,0,none⟩)) (.int .i64 now)->HR.wp Tryz.prog (At4 P) a' A):=hk
 obtain ⟨d0,d1,d2,d15⟩:=hM.cells
 clear hU hM hk d1 d2 d15
 unfold g3 e3 x3 sw3 rest3 bd3 rnd3 b3
 dsimp only [Tryz.f3,Option.getD,cL,cR,cB,cW,cT,cE]
 rcases hkd with rfl | rfl | rfl
 ·go_wp2_with fail
  exact Code.wp_mono (fun e a w h=>by cases e <;> first | exact h | exact h.elim) (HK.out _ ⟨rfl,rfl,rfl,rfl,rfl,rfl,rfl,rfl,rfl,rfl⟩)
 ·go_wp2_with fail
  exact Code.wp_mono (fun e a w h=>by cases e <;> first | exact h | exact h.elim) (HK.out _ ⟨rfl,rfl,rfl,rfl,rfl,rfl,rfl,rfl,rfl,rfl⟩)
 ·go_wp2_with fail
  exact Code.wp_mono (fun e a w h=>by cases e <;> first | exact h | exact h.elim) (HK.out _ ⟨rfl,rfl,rfl,rfl,rfl,rfl,rfl,rfl,rfl,rfl⟩)
theorem sw3_3 (a:Act)(w A:World)(n:Int)(v2:Value)(b k:Nat)(i:Nat)(sb mb:Nat)(kd nn now:Int)(o0:Value)(z1:Option Addr)(z2 z3:Nat)(m:PMsg)(u1:Option Addr)(u2 u3:Nat)(v1:Option Addr)(v2' v3:Nat)(hi:i<1000000000000)
  (hU:U3 a (.int .i64 n) v2 (.pointer (some ⟨b,0,none⟩)) (.pointer (some ⟨k,0,none⟩)) (.int .i64 (i:Nat)) (.pointer (some ⟨sb,0,none⟩)) (.pointer (some ⟨mb,0,none⟩)) (.int .i64 now)) (hL:Liv w A b k cf s n i) (hM:Msg3 w A sb mb kd nn o0 z1 z2 z3 m u1 u2 u3 v1 v2' v3) (hkd:kd=3\/kd=6\/kd=7) (h7:kd=7->m.tell.answer=[]) :
  sw3.wp Tryz.prog (At4 (Sw3 w n v2 i)) a A:=by
 rw [sw3_form]
 refine to_hear a w A n v2 _ _ i sb mb kd nn now o0 z1 z2 z3 m u1 u2 u3 v1 v2' v3 hU hM hkd hr3 _ ?_
 intro a' hU'
 rw [hr3_eq]
 let P:World->Value->Prop:=fun W u=>Runs w W b (hearS s m)/\Doc w W k cf s/\Rets W A.heap.size u (hearL s m)
 have hP:∀W W' u,P W u->W.grownBy W' none->P W' u:=fun W W' u h hg=>⟨h.1.grown hg,doc_grown h.2.1 hg,h.2.2.grown hg⟩
 have hC:Calls Tryz.prog 14 #[.pointer (some ⟨b,0,none⟩),msgV (.slice u1 u2 u3) (.slice v1 v2' v3) m] A fun e A1=>∃r1 r2 r3,e=.returned (.slice r1 r2 r3)/\Keep A A1/\w.grownBy A1 none/\P A1 (.slice r1 r2 r3):=by
  refine (rhear (m:=m) hL.run hM.ops.ops (hM.ans.mono (Nat.zero_le _)) (by have:=hM.len;omega) hM.inm (by have:=hL.tok;omega)).mono ?_
  rintro e A1 ⟨u,rfl,hu,hr,hkp⟩
  obtain ⟨r1,r2,r3,rfl⟩:=hu.slice
  exact ⟨r1,r2,r3,rfl,hkp,hr.gr,hr,doc_keep hL.doc hkp hr.gr,hu⟩
 have fin:∀a' W r1 r2 r3,V3 a' (.int .i64 n) v2 (.pointer (some ⟨b,0,none⟩)) (.pointer (some ⟨k,0,none⟩)) (.int .i64 (i:Nat)) (.pointer (some ⟨mb,0,none⟩)) (.slice r1 r2 r3)->Msg3 w W sb mb kd nn o0 z1 z2 z3 m u1 u2 u3 v1 v2' v3->w.grownBy W none->P W (.slice r1 r2 r3)->tl3.wp Tryz.prog (At4 (Sw3 w n v2 i)) a' W:=by
  intro a' W r1 r2 r3 hV hM' _ hp
  exact tail3 a' w A W n v2 b k i sb mb kd nn o0 z1 z2 z3 m u1 u2 u3 v1 v2' v3 r1 r2 r3 _ hi hV hL hM' hp.1 hp.2.1 hp.2.2
 by_cases hk7:kd=7
 ·exact hear3_7 a' w A n v2 _ _ i sb mb kd nn now o0 z1 z2 z3 m u1 u2 u3 v1 v2' v3 hU' P hP hM hC hk7 (h7 hk7) tl3 _ fin
 ·by_cases hl:m.tell.answer=[]
  ·exact hear3_0 a' w A n v2 _ _ i sb mb kd nn now o0 z1 z2 z3 m u1 u2 u3 v1 v2' v3 hU' P hP hM hC hk7 hl tl3 _ fin
  ·rcases hM.ans.shape with ⟨_,e⟩ | ⟨g,cap,e,_⟩
   ·exact absurd e hl
   ·simp at e
    exact hear3_n a' w A n v2 _ _ i sb mb kd nn now o0 z1 z2 z3 m u1 u2 u3 v1 v2' v3 hU' P hP hM hC hk7 g e.1 e.2.1 (by rw [e.2.1];exact List.length_pos_iff.2 hl) tl3 _ fin
theorem sw3_live (a:Act)(w A:World)(n:Int)(v2:Value)(b k:Nat)(i:Nat)(sb mb:Nat)(kd nn now:Int)(x1:Option Addr)(x2 x3:Nat)(ops:List POp)(z1:Option Addr)(z2 z3:Nat)(m:PMsg)(u1:Option Addr)(u2 u3:Nat)(v1:Option Addr)(v2' v3:Nat)(hi:i<1000000000000)
  (hU:U3 a (.int .i64 n) v2 (.pointer (some ⟨b,0,none⟩)) (.pointer (some ⟨k,0,none⟩)) (.int .i64 (i:Nat)) (.pointer (some ⟨sb,0,none⟩)) (.pointer (some ⟨mb,0,none⟩)) (.int .i64 now)) (hL:Liv w A b k cf s n i) (hM:Msg3 w A sb mb kd nn (.slice x1 x2 x3) z1 z2 z3 m u1 u2 u3 v1 v2' v3) (hx:∀y,w.grownBy y none->Ops y (.slice x1 x2 x3) ops) (h7:kd=7->m.tell.answer=[]) :
  sw3.wp Tryz.prog (At4 (Sw3 w n v2 i)) a A:=by
 by_cases h1:kd=1
 ·exact sw3_1 a w A n v2 b k i sb mb kd nn now x1 x2 x3 ops z1 z2 z3 m u1 u2 u3 v1 v2' v3 hi hU hL hM hx h1
 ·by_cases h2:kd=2\/kd=8
  ·exact sw3_2 a w A n v2 b k i sb mb kd nn now _ z1 z2 z3 m u1 u2 u3 v1 v2' v3 hU hL hM h2
  ·by_cases h3:kd=3\/kd=6\/kd=7
   ·exact sw3_3 a w A n v2 b k i sb mb kd nn now _ z1 z2 z3 m u1 u2 u3 v1 v2' v3 hi hU hL hM h3 h7
   ·by_cases h4:kd=4
    ·exact sw3_4 a w A n v2 b k i sb mb kd nn now _ z1 z2 z3 m u1 u2 u3 v1 v2' v3 hi hU hL hM h4
    ·by_cases h5:kd=5
     ·exact sw3_5 a w A n v2 b k i sb mb kd nn now _ z1 z2 z3 m u1 u2 u3 v1 v2' v3 hi hU hL hM h5
     ·exact sw3_0 a w A n v2 _ _ i sb mb kd nn now _ z1 z2 z3 m u1 u2 u3 v1 v2' v3 hU (.inr ⟨b,k,cf,s,rfl,rfl,hL.next hL.run hL.doc cst_same⟩) hM h1 (by omega) (by omega) h4 h5 (by omega) (by omega) (by omega)
theorem nocl_nil (A:World):NoCl A (.pointer none):=.inl rfl
theorem dead3_1 (a:Act)(w A:World)(n:Int)(v2:Value)(i:Nat)(sb mb:Nat)(kd nn now:Int)(x1:Option Addr)(x2 x3:Nat)(z1:Option Addr)(z2 z3:Nat)(m:PMsg)(u1:Option Addr)(u2 u3:Nat)(v1:Option Addr)(v2' v3:Nat)
  (hU:U3 a (.int .i64 n) v2 (.pointer none) (.pointer none) (.int .i64 (i:Nat)) (.pointer (some ⟨sb,0,none⟩)) (.pointer (some ⟨mb,0,none⟩)) (.int .i64 now)) (hg:w.grownBy A none) (hM:Msg3 w A sb mb kd nn (.slice x1 x2 x3) z1 z2 z3 m u1 u2 u3 v1 v2' v3) (hkd:kd=1) :
  sw3.wp Tryz.prog (At4 (Sw3 w n v2 i)) a A:=by
 obtain ⟨t,sl0,sl2,sl7,sl9,sl10,sl11,sl12,sl13,rfl⟩:=hU.eq
 unfold row260
 rw [sl0,sl2,sl7,sl9,sl10,sl11,sl12,sl13]
 clear sl0 sl2 sl7 sl9 sl10 sl11 sl12 sl13
 have HM:Hid (Msg3 w A sb mb kd nn (.slice x1 x2 x3) z1 z2 z3 m u1 u2 u3 v1 v2' v3/\w.grownBy A none):=⟨hM,hg⟩
 obtain ⟨d0,d1,d2,d15⟩:=hM.cells
 subst hkd
 clear hU hM hg d1 d15
 unfold sw3 rest3 bd3 rnd3 b3
 dsimp only [Tryz.f3,Option.getD,cL,cR,cB,cW]
 go_wp2_with fail
 refine (invoke_nocl (.pointer none) (.slice x1 x2 x3) A (nocl_nil A) ⟨_,_,_,rfl⟩).mono ?_
 rintro e A1 ⟨rfl,hg⟩
 have H1:Hid (w.grownBy A1 none):=grown_trans HM.out.2 hg
 obtain ⟨d0,d1,d2,d15⟩:=(HM.out.1.grown hg).cells
 clear hg d1 d15
 go_wp2_with fail
 refine (rinvoke_nil x1 x2 x3 A1).mono ?_
 rintro e A2 ⟨rfl,hg⟩
 have H2:Hid (w.grownBy A2 none):=grown_trans H1.out hg
 clear hg d0 d2
 go_wp2_with fail
 exact ⟨_,_,⟨rfl,rfl,rfl,rfl,rfl,rfl,rfl⟩,.inl ⟨rfl,rfl,H2.out⟩⟩
theorem dead3_2 (a:Act)(w A:World)(n:Int)(v2:Value)(i:Nat)(sb mb:Nat)(kd nn now:Int)(o0:Value)(z1:Option Addr)(z2 z3:Nat)(m:PMsg)(u1:Option Addr)(u2 u3:Nat)(v1:Option Addr)(v2' v3:Nat)
  (hU:U3 a (.int .i64 n) v2 (.pointer none) (.pointer none) (.int .i64 (i:Nat)) (.pointer (some ⟨sb,0,none⟩)) (.pointer (some ⟨mb,0,none⟩)) (.int .i64 now)) (hg:w.grownBy A none) (hM:Msg3 w A sb mb kd nn o0 z1 z2 z3 m u1 u2 u3 v1 v2' v3) (hkd:kd=2\/kd=8) :
  sw3.wp Tryz.prog (At4 (Sw3 w n v2 i)) a A:=by
 obtain ⟨t,sl0,sl2,sl7,sl9,sl10,sl11,sl12,sl13,rfl⟩:=hU.eq
 unfold row260
 rw [sl0,sl2,sl7,sl9,sl10,sl11,sl12,sl13]
 clear sl0 sl2 sl7 sl9 sl10 sl11 sl12 sl13
 have HG:Hid (w.grownBy A none):=hg
 obtain ⟨d0,d1,d2,d15⟩:=hM.cells
 clear hU hM hg d1 d2 d15
 unfold sw3 rest3 bd3 rnd3 b3
 dsimp only [Tryz.f3,Option.getD,cL,cR,cB,cW]
 rcases hkd with rfl | rfl
 ·go_wp2_with fail
  refine (step_nocl (.pointer none) now A (nocl_nil A)).mono ?_
  rintro e A1 ⟨rfl,hA⟩
  subst hA
  go_wp2_with fail
  refine (rstep_nil now A1).mono ?_
  rintro e A2 ⟨rfl,hg⟩
  have H2:Hid (w.grownBy A2 none):=grown_trans HG.out hg
  clear hg d0
  go_wp2_with fail
  refine (sameAll13 A2 0 0 (.slice none 0 0) (.slice none 0 0) [] (msgsOwn_nil _ _) (msgsOwn_nil _ _)).mono ?_
  rintro e A3 ⟨rfl,hg⟩
  have H3:Hid (w.grownBy A3 none):=grown_trans H2.out hg
  clear hg
  go_wp2_with fail
  exact ⟨_,_,⟨rfl,rfl,rfl,rfl,rfl,rfl,rfl⟩,.inl ⟨rfl,rfl,H3.out⟩⟩
 ·go_wp2_with fail
  refine (step_nocl (.pointer none) now A (nocl_nil A)).mono ?_
  rintro e A1 ⟨rfl,hA⟩
  subst hA
  go_wp2_with fail
  refine (rstep_nil now A1).mono ?_
  rintro e A2 ⟨rfl,hg⟩
  have H2:Hid (w.grownBy A2 none):=grown_trans HG.out hg
  clear hg d0
  go_wp2_with fail
  refine (sameAll13 A2 0 0 (.slice none 0 0) (.slice none 0 0) [] (msgsOwn_nil _ _) (msgsOwn_nil _ _)).mono ?_
  rintro e A3 ⟨rfl,hg⟩
  have H3:Hid (w.grownBy A3 none):=grown_trans H2.out hg
  clear hg
  go_wp2_with fail
  exact ⟨_,_,⟨rfl,rfl,rfl,rfl,rfl,rfl,rfl⟩,.inl ⟨rfl,rfl,H3.out⟩⟩
theorem dead3_4 (a:Act)(w A:World)(n:Int)(v2:Value)(i:Nat)(sb mb:Nat)(kd nn now:Int)(o0:Value)(z1:Option Addr)(z2 z3:Nat)(m:PMsg)(u1:Option Addr)(u2 u3:Nat)(v1:Option Addr)(v2' v3:Nat)
  (hU:U3 a (.int .i64 n) v2 (.pointer none) (.pointer none) (.int .i64 (i:Nat)) (.pointer (some ⟨sb,0,none⟩)) (.pointer (some ⟨mb,0,none⟩)) (.int .i64 now)) (hg:w.grownBy A none) (hM:Msg3 w A sb mb kd nn o0 z1 z2 z3 m u1 u2 u3 v1 v2' v3) (hkd:kd=4) :
  sw3.wp Tryz.prog (At4 (Sw3 w n v2 i)) a A:=by
 obtain ⟨t,sl0,sl2,sl7,sl9,sl10,sl11,sl12,sl13,rfl⟩:=hU.eq
 unfold row260
 rw [sl0,sl2,sl7,sl9,sl10,sl11,sl12,sl13]
 clear sl0 sl2 sl7 sl9 sl10 sl11 sl12 sl13
 have HG:Hid (w.grownBy A none):=hg
 obtain ⟨d0,d1,d2,d15⟩:=hM.cells
 subst hkd
 clear hU hM hg d1 d2 d15
 unfold sw3 rest3 bd3 rnd3 b3
 dsimp only [Tryz.f3,Option.getD,cL,cR,cB,cW]
 go_wp2_with fail
 refine (leave_nocl (.pointer none) A (nocl_nil A)).mono ?_
 rintro e A1 ⟨rfl,hA⟩
 subst hA
 go_wp2_with fail
 refine (rleave_nil A1).mono ?_
 rintro e A2 ⟨rfl,hg⟩
 have H2:Hid (w.grownBy A2 none):=grown_trans HG.out hg
 clear hg d0
 go_wp2_with fail
 refine (sameAll13 A2 0 0 (.slice none 0 0) (.slice none 0 0) [] (msgsOwn_nil _ _) (msgsOwn_nil _ _)).mono ?_
 rintro e A3 ⟨rfl,hg⟩
 have H3:Hid (w.grownBy A3 none):=grown_trans H2.out hg
 clear hg
 go_wp2_with fail
 refine (sameReturns15 A3 0 0 (.slice none 0 0) (.slice none 0 0) [] (rets_nil _ _) (rets_nil _ _) (by simp)).mono ?_
 rintro e A4 ⟨rfl,hg⟩
 have H4:Hid (w.grownBy A4 none):=grown_trans H3.out hg
 clear hg
 go_wp2_with fail
 exact ⟨_,_,⟨rfl,rfl,rfl,rfl,rfl,rfl,rfl⟩,.inl ⟨rfl,rfl,H4.out⟩⟩
theorem dead3_5 (a:Act)(w A:World)(n:Int)(v2:Value)(i:Nat)(sb mb:Nat)(kd nn now:Int)(o0:Value)(z1:Option Addr)(z2 z3:Nat)(m:PMsg)(u1:Option Addr)(u2 u3:Nat)(v1:Option Addr)(v2' v3:Nat)
  (hU:U3 a (.int .i64 n) v2 (.pointer none) (.pointer none) (.int .i64 (i:Nat)) (.pointer (some ⟨sb,0,none⟩)) (.pointer (some ⟨mb,0,none⟩)) (.int .i64 now)) (hg:w.grownBy A none) (hM:Msg3 w A sb mb kd nn o0 z1 z2 z3 m u1 u2 u3 v1 v2' v3) (hkd:kd=5) :
  sw3.wp Tryz.prog (At4 (Sw3 w n v2 i)) a A:=by
 obtain ⟨t,sl0,sl2,sl7,sl9,sl10,sl11,sl12,sl13,rfl⟩:=hU.eq
 unfold row260
 rw [sl0,sl2,sl7,sl9,sl10,sl11,sl12,sl13]
 clear sl0 sl2 sl7 sl9 sl10 sl11 sl12 sl13
 have HG:Hid (w.grownBy A none):=hg
 obtain ⟨d0,d1,d2,d15⟩:=hM.cells
 subst hkd
 clear hU hM hg d1 d2 d15
 unfold sw3 rest3 bd3 rnd3 b3
 dsimp only [Tryz.f3,Option.getD,cL,cR,cB,cW]
 go_wp2_with fail
 refine (copy_nocl (.pointer none) A (nocl_nil A)).mono ?_
 rintro e A1 ⟨rfl,hA⟩
 subst hA
 clear d0
 go_wp2_with fail
 refine (call20 A1).mono ?_
 rintro e A2 ⟨ov,rfl,hsl,hov,hg⟩
 have H2:Hid (w.grownBy A2 none):=grown_trans HG.out hg
 obtain ⟨o1,o2,o3,rfl⟩:=hsl
 clear hov hg
 go_wp2_with fail
 refine (invoke_nocl (.pointer none) (.slice o1 o2 o3) A2 (nocl_nil A2) ⟨_,_,_,rfl⟩).mono ?_
 rintro e A3 ⟨rfl,hg⟩
 have H3:Hid (w.grownBy A3 none):=grown_trans H2.out hg
 clear hg
 go_wp2_with fail
 refine (leave_nocl (.pointer none) A3 (nocl_nil A3)).mono ?_
 rintro e A4 ⟨rfl,hA⟩
 subst hA
 go_wp2_with fail
 exact ⟨_,_,⟨rfl,rfl,rfl,rfl,rfl,rfl,rfl⟩,.inl ⟨rfl,rfl,H3.out⟩⟩
theorem dead_tail (a:Act)(w W:World)(n:Int)(v2:Value)(i:Nat)(mb:Nat)(m:PMsg)(u1:Option Addr)(u2 u3:Nat)(v1:Option Addr)(v2' v3:Nat)
  (hV:V3 a (.int .i64 n) v2 (.pointer none) (.pointer none) (.int .i64 (i:Nat)) (.pointer (some ⟨mb,0,none⟩)) (.slice none 0 0)) (hg:w.grownBy W none) (hM:MB W mb (.slice u1 u2 u3) (.slice v1 v2' v3) m) :
  tl3.wp Tryz.prog (At4 (Sw3 w n v2 i)) a W:=by
 obtain ⟨t,sl0,sl2,sl7,sl9,sl10,sl12,sl22,rfl⟩:=hV.eq
 unfold row260
 rw [sl0,sl2,sl7,sl9,sl10,sl12,sl22]
 clear sl0 sl2 sl7 sl9 sl10 sl12 sl22
 have HG:Hid (w.grownBy W none):=hg
 obtain ⟨c0,c1,c2,c3,c4,c5,c6,c7,c8,c9,c10,c11,c12⟩:=MB.cells hM
 clear hV hg hM
 unfold tl3 hr3 sw3 rest3 bd3 rnd3 b3
 dsimp only [Tryz.f3,Option.getD,cL,cR,cB,cW,cT,cE]
 go_wp2_with fail
 refine (rhear_nil W u1 u2 u3 v1 v2' v3 m).mono ?_
 rintro e A3 ⟨rfl,hg⟩
 have H3:Hid (w.grownBy A3 none):=grown_trans HG.out hg
 clear hg c0 c1 c2 c3 c4 c5 c6 c7 c8 c9 c10 c11 c12
 go_wp2_with fail
 refine (sameReturns15 A3 0 0 (.slice none 0 0) (.slice none 0 0) [] (rets_nil _ _) (rets_nil _ _) (by simp)).mono ?_
 rintro e A4 ⟨rfl,hg⟩
 have H4:Hid (w.grownBy A4 none):=grown_trans H3.out hg
 clear hg
 go_wp2_with fail
 exact ⟨_,_,⟨rfl,rfl,rfl,rfl,rfl,rfl,rfl⟩,.inl ⟨rfl,rfl,H4.out⟩⟩
theorem dead3_3 (a:Act)(w A:World)(n:Int)(v2:Value)(i:Nat)(sb mb:Nat)(kd nn now:Int)(o0:Value)(z1:Option Addr)(z2 z3:Nat)(m:PMsg)(u1:Option Addr)(u2 u3:Nat)(v1:Option Addr)(v2' v3:Nat)
  (hU:U3 a (.int .i64 n) v2 (.pointer none) (.pointer none) (.int .i64 (i:Nat)) (.pointer (some ⟨sb,0,none⟩)) (.pointer (some ⟨mb,0,none⟩)) (.int .i64 now)) (hg:w.grownBy A none) (hM:Msg3 w A sb mb kd nn o0 z1 z2 z3 m u1 u2 u3 v1 v2' v3) (hkd:kd=3\/kd=6\/kd=7) :
  sw3.wp Tryz.prog (At4 (Sw3 w n v2 i)) a A:=by
 rw [sw3_form]
 refine to_hear a w A n v2 _ _ i sb mb kd nn now o0 z1 z2 z3 m u1 u2 u3 v1 v2' v3 hU hM hkd hr3 _ ?_
 intro a' hU'
 rw [hr3_eq]
 let P:World->Value->Prop:=fun _ u=>u=.slice none 0 0
 have hP:∀W W' u,P W u->W.grownBy W' none->P W' u:=fun W W' u h _=>h
 have hC:Calls Tryz.prog 14 #[.pointer none,msgV (.slice u1 u2 u3) (.slice v1 v2' v3) m] A fun e A1=>∃r1 r2 r3,e=.returned (.slice r1 r2 r3)/\Keep A A1/\w.grownBy A1 none/\P A1 (.slice r1 r2 r3):=by
  refine (hear_nocl (.pointer none) (.slice u1 u2 u3) (.slice v1 v2' v3) m A (nocl_nil A)).mono ?_
  rintro e A1 ⟨rfl,hg1⟩
  exact ⟨none,0,0,rfl,keep_grown hg1,grown_trans hg hg1,rfl⟩
 have fin:∀a' W r1 r2 r3,V3 a' (.int .i64 n) v2 (.pointer none) (.pointer none) (.int .i64 (i:Nat)) (.pointer (some ⟨mb,0,none⟩)) (.slice r1 r2 r3)->Msg3 w W sb mb kd nn o0 z1 z2 z3 m u1 u2 u3 v1 v2' v3->w.grownBy W none->P W (.slice r1 r2 r3)->tl3.wp Tryz.prog (At4 (Sw3 w n v2 i)) a' W:=by
  intro a' W r1 r2 r3 hV hM' hg' hp
  have hp':Value.slice r1 r2 r3=.slice none 0 0:=hp
  rw [hp'] at hV
  exact dead_tail a' w W n v2 i mb m u1 u2 u3 v1 v2' v3 hV hg' hM'.mbk
 by_cases hl:m.tell.answer=[]
 ·by_cases hk7:kd=7
  ·exact hear3_7 a' w A n v2 _ _ i sb mb kd nn now o0 z1 z2 z3 m u1 u2 u3 v1 v2' v3 hU' P hP hM hC hk7 hl tl3 _ fin
  ·exact hear3_0 a' w A n v2 _ _ i sb mb kd nn now o0 z1 z2 z3 m u1 u2 u3 v1 v2' v3 hU' P hP hM hC hk7 hl tl3 _ fin
 ·rcases hM.ans.shape with ⟨_,e⟩ | ⟨g,cap,e,_⟩
  ·exact absurd e hl
  ·simp at e
   have hpos:0<v2':=by rw [e.2.1];exact List.length_pos_iff.2 hl
   by_cases hk7:kd=7
   ·refine hear3_d a' w A n v2 _ _ i sb mb kd nn now o0 z1 z2 z3 m u1 u2 u3 v1 v2' v3 hU' P (fun h=>h) hP hM hC hk7 g e.1 e.2.1 hpos tl3 _ ?_
    intro a' W r1 r2 r3 hV hM' hg' hp
    have hp':Value.slice r1 r2 r3=.slice none 0 0:=hp
    rw [hp'] at hV
    exact dead_tail a' w W n v2 i mb m u1 u2 u3 v1 v2' v3 hV hg' hM'
   ·exact hear3_n a' w A n v2 _ _ i sb mb kd nn now o0 z1 z2 z3 m u1 u2 u3 v1 v2' v3 hU' P hP hM hC hk7 g e.1 e.2.1 hpos tl3 _ fin
theorem sw3_dead (a:Act)(w A:World)(n:Int)(v2:Value)(i:Nat)(sb mb:Nat)(kd nn now:Int)(x1:Option Addr)(x2 x3:Nat)(z1:Option Addr)(z2 z3:Nat)(m:PMsg)(u1:Option Addr)(u2 u3:Nat)(v1:Option Addr)(v2' v3:Nat)
  (hU:U3 a (.int .i64 n) v2 (.pointer none) (.pointer none) (.int .i64 (i:Nat)) (.pointer (some ⟨sb,0,none⟩)) (.pointer (some ⟨mb,0,none⟩)) (.int .i64 now)) (hg:w.grownBy A none) (hM:Msg3 w A sb mb kd nn (.slice x1 x2 x3) z1 z2 z3 m u1 u2 u3 v1 v2' v3) :
  sw3.wp Tryz.prog (At4 (Sw3 w n v2 i)) a A:=by
 by_cases h1:kd=1
 ·exact dead3_1 a w A n v2 i sb mb kd nn now x1 x2 x3 z1 z2 z3 m u1 u2 u3 v1 v2' v3 hU hg hM h1
 ·by_cases h2:kd=2\/kd=8
  ·exact dead3_2 a w A n v2 i sb mb kd nn now _ z1 z2 z3 m u1 u2 u3 v1 v2' v3 hU hg hM h2
  ·by_cases h3:kd=3\/kd=6\/kd=7
   ·exact dead3_3 a w A n v2 i sb mb kd nn now _ z1 z2 z3 m u1 u2 u3 v1 v2' v3 hU hg hM h3
   ·by_cases h4:kd=4
    ·exact dead3_4 a w A n v2 i sb mb kd nn now _ z1 z2 z3 m u1 u2 u3 v1 v2' v3 hU hg hM h4
    ·by_cases h5:kd=5
     ·exact dead3_5 a w A n v2 i sb mb kd nn now _ z1 z2 z3 m u1 u2 u3 v1 v2' v3 hU hg hM h5
     ·exact sw3_0 a w A n v2 _ _ i sb mb kd nn now _ z1 z2 z3 m u1 u2 u3 v1 v2' v3 hU (.inl ⟨rfl,rfl,hg⟩) hM h1 (by omega) (by omega) h4 h5 (by omega) (by omega) (by omega)
variable {w A A':World} {b k:Nat} {s:CS} {cf:PCfg}
theorem end3_ok (a:Act)(w A:World)(n:Int)(v2:Value)(i:Nat)(h:Sw3 w n v2 i a A):end3.wp Tryz.prog (At4 (Sw3 w n v2 i)) a A:=by
 obtain ⟨p7,p9,hS,hB⟩:=h
 rcases hB with ⟨rfl,rfl,hg⟩ | ⟨b,k,cf,s,rfl,rfl,hL⟩
 ·obtain ⟨t,sl0,sl2,sl7,sl9,sl10,rfl⟩:=hS.eq
  unfold row260
  rw [sl0,sl2,sl7,sl9,sl10]
  clear sl0 sl2 sl7 sl9 sl10
  have HG:Hid (w.grownBy A none):=hg
  clear hS hg
  unfold end3 rest3 bd3 rnd3 b3
  dsimp only [Tryz.f3,Option.getD,cL,cR,cB,cW]
  go_wp2_with fail
  refine (stands_nil (.pointer none) A (nocl_nil A)).mono ?_
  rintro e A1 ⟨rfl,hg⟩
  have H1:Hid (w.grownBy A1 none):=grown_trans HG.out hg
  clear hg
  go_wp2_with fail
  exact ⟨_,_,⟨rfl,rfl,rfl,rfl,rfl,rfl,rfl⟩,.inl ⟨rfl,rfl,H1.out⟩⟩
 ·obtain ⟨t,sl0,sl2,sl7,sl9,sl10,rfl⟩:=hS.eq
  unfold row260
  rw [sl0,sl2,sl7,sl9,sl10]
  clear sl0 sl2 sl7 sl9 sl10
  have HL:Hid (Liv w A b k cf s n (i+1)):=hL
  clear hS hL
  unfold end3 rest3 bd3 rnd3 b3
  dsimp only [Tryz.f3,Option.getD,cL,cR,cB,cW]
  go_wp2_with fail
  obtain ⟨v,hd⟩:=HL.out.doc
  refine (stands21 A HL.out.run hd).mono ?_
  rintro e A1 ⟨rfl,hg⟩
  have H1:Hid (Liv w A1 b k cf s n (i+1)):=HL.out.grown hg
  clear hg hd
  go_wp2_with fail
  exact ⟨_,_,⟨rfl,rfl,rfl,rfl,rfl,rfl,rfl⟩,.inr ⟨b,k,cf,s,rfl,rfl,H1.out⟩⟩
def Top3 (w:World)(n:Int)(v2:Value)(i:Nat)(a:Act)(A:World):Prop:=∃p7 p9,S3 a (.int .i64 n) v2 p7 p9 (.int .i64 (i:Nat))/\Both w A n i p7 p9
theorem rest3_ok (a:Act)(w A:World)(n:Int)(v2:Value)(i:Nat)(h:sw3.wp Tryz.prog (At4 (Sw3 w n v2 i)) a A):rest3.wp Tryz.prog (At4 (Sw3 w n v2 i)) a A:=by
 rw [rest3_eq]
 refine wp_seq (Code.wp_mono ?_ h)
 rintro e a4 A4 h4
 cases e with
 | normal=>exact end3_ok a4 w A4 n v2 i h4
 | _=>exact h4.elim
theorem round3 (a:Act)(w A:World)(n:Int)(so:Option Addr)(sn sc:Nat)(i:Nat)(ss:List PStep)(hs:StepsIn w (.slice so sn sc) ss)(hi:i<ss.length)(hl:i<1000000000000)(ht:Top3 w n (.slice so sn sc) i a A) :
  bd3.wp Tryz.prog (At4 (Sw3 w n (.slice so sn sc) i)) a A:=by
 obtain ⟨p7,p9,hS,hB⟩:=ht
 rw [bd3_eq]
 rcases hB with ⟨rfl,rfl,hg⟩ | ⟨b,k,cf,s,rfl,rfl,hL⟩
 ·refine fore3 a w A n so sn sc none none i ss hS hg hs hi _ _ ?_
  intro a1 A1 sb mb kd nn x1 x2 x3 ops z1 z2 z3 m u1 u2 u3 v1 v2 v3 hT hgA hmb hM hx hnn
  refine turn3_0 a1 w A A1 n _ none none i sb mb kd nn _ z1 z2 z3 m u1 u2 u3 v1 v2 v3 hT hgA hM (.inl rfl) _ _ ?_
  intro a2 A2 m' u1 u2 u3 v1 v2 v3 hT2 hgA2 hM2 _
  refine now3 a2 w A A2 n _ none none i sb mb kd nn _ z1 z2 z3 m' u1 u2 u3 v1 v2 v3 hT2 hgA2 hM2 (.inl rfl) _ _ ?_
  intro a3 A3 now hU hgA3 hM3
  exact rest3_ok a3 w A3 n _ i (sw3_dead a3 w A3 n _ i sb mb kd nn now x1 x2 x3 z1 z2 z3 m' u1 u2 u3 v1 v2 v3 hU (grown_trans hg hgA3) hM3)
 ·refine fore3 a w A n so sn sc _ _ i ss hS hL.run.gr hs hi _ _ ?_
  intro a1 A1 sb mb kd nn x1 x2 x3 ops z1 z2 z3 m u1 u2 u3 v1 v2 v3 hT hgA hmb hM hx hnn
  have fin:∀a2 A2 m' u1 u2 u3 v1 v2 v3,T3 a2 (.int .i64 n) (.slice so sn sc) (.pointer (some ⟨b,0,none⟩)) (.pointer (some ⟨k,0,none⟩)) (.int .i64 (i:Nat)) (.pointer (some ⟨sb,0,none⟩)) (.pointer (some ⟨mb,0,none⟩))->A.grownBy A2 none->Msg3 w A2 sb mb kd nn (.slice x1 x2 x3) z1 z2 z3 m' u1 u2 u3 v1 v2 v3->(kd=7->m'.tell.answer=[])->(Code.seq (cL (cR (cR (cR (cR bd3))))) (.seq (cL (cR (cR (cR (cR (cR bd3)))))) rest3)).wp Tryz.prog (At4 (Sw3 w n (.slice so sn sc) i)) a2 A2:=by
   intro a2 A2 m' u1 u2 u3 v1 v2 v3 hT2 hgA2 hM2 h7
   refine now3 a2 w A A2 n _ _ _ i sb mb kd nn _ z1 z2 z3 m' u1 u2 u3 v1 v2 v3 hT2 hgA2 hM2 (.inr ⟨k,s,cf,rfl,hL.doc,hL.run.ok⟩) _ _ ?_
   intro a3 A3 now hU hgA3 hM3
   exact rest3_ok a3 w A3 n _ i (sw3_live a3 w A3 n _ b k i sb mb kd nn now x1 x2 x3 ops z1 z2 z3 m' u1 u2 u3 v1 v2 v3 hl hU (hL.grown hgA3) hM3 hx h7)
  by_cases h6:kd=6
  ·exact turn3_6 a1 w A A1 n _ b k i sb mb kd nn _ z1 z2 z3 m u1 u2 u3 v1 v2 v3 hT hL hgA hmb hM h6 _ _ fin
  ·by_cases h7:kd=7
   ·exact turn3_7 a1 w A A1 n _ b k i sb mb kd nn _ z1 z2 z3 m u1 u2 u3 v1 v2 v3 hT hL hgA hmb hM h7 hnn.2 _ _ fin
   ·exact turn3_0 a1 w A A1 n _ _ _ i sb mb kd nn _ z1 z2 z3 m u1 u2 u3 v1 v2 v3 hT hgA hM (.inr ⟨⟨_,rfl⟩,h6,h7⟩) _ _ fun a2 A2 m' u1 u2 u3 v1 v2 v3 hT2 hgA2 hM2 _=>fin a2 A2 m' u1 u2 u3 v1 v2 v3 hT2 hgA2 hM2 fun e=>absurd e h7
def Head3 (w:World)(n:Int)(v2:Value)(i:Nat)(c:Prop):Exit->Act->World->Prop
 | .normal,a,W=>Top3 w n v2 i a W/\c
 | .exit q,a,W=>Top3 w n v2 i a W/\q=0
 | _,_,_=>False
theorem head3 (a:Act)(w A:World)(n:Int)(so:Option Addr)(sn sc i:Nat)(ht:Top3 w n (.slice so sn sc) i a A):(cL rnd3).wp Tryz.prog (Head3 w n (.slice so sn sc) i (i<sn)) a A:=by
 obtain ⟨p7,p9,hS,hB⟩:=ht
 have HB:Hid (Both w A n i p7 p9):=hB
 obtain ⟨t,sl0,sl2,sl7,sl9,sl10,rfl⟩:=hS.eq
 unfold row260
 rw [sl0,sl2,sl7,sl9,sl10]
 clear sl0 sl2 sl7 sl9 sl10
 clear hS hB
 unfold rnd3 b3
 dsimp only [Tryz.f3,Option.getD,cL,cR,cB,cW]
 by_cases z1:i<sn
 ·have j1:(i:Int)<(sn:Int):=by omega
  go_wp2_with fail
  exact ⟨⟨_,_,⟨rfl,rfl,rfl,rfl,rfl,rfl,rfl⟩,HB.out⟩,z1⟩
 ·have j1:¬(i:Int)<(sn:Int):=by omega
  go_wp2_with fail
  exact ⟨⟨_,_,⟨rfl,rfl,rfl,rfl,rfl,rfl,rfl⟩,HB.out⟩,rfl⟩
theorem inc3 (a:Act)(w A:World)(n:Int)(v2:Value)(i:Nat)(hi:i<1000000000000)(ht:Sw3 w n v2 i a A):(cR (cR rnd3)).wp Tryz.prog (At4 (Top3 w n v2 (i+1))) a A:=by
 obtain ⟨p7,p9,hS,hB⟩:=ht
 have HB:Hid (Both w A n (i+1) p7 p9):=hB
 obtain ⟨t,sl0,sl2,sl7,sl9,sl10,rfl⟩:=hS.eq
 unfold row260
 rw [sl0,sl2,sl7,sl9,sl10]
 clear sl0 sl2 sl7 sl9 sl10
 clear hS hB
 have wi:IntKind.i64.wrap ((i:Int)+1)=((i+1:Nat):Int):=by rw [IntKind.wrap_i64];push_cast;omega
 unfold rnd3 b3
 dsimp only [Tryz.f3,Option.getD,cL,cR,cB,cW]
 go_wp2_with fail
 exact ⟨_,_,⟨rfl,rfl,rfl,rfl,rfl,rfl,by first | rfl | (simp [sl];done)⟩,HB.out⟩
theorem loop3 (a:Act)(w A:World)(n:Int)(so:Option Addr)(sn sc:Nat)(ss:List PStep)(hs:StepsIn w (.slice so sn sc) ss)(hn:ss.length=sn)(hb:sn<=1000000000000)
  (Q:Exit->Act->World->Prop) (hQ:∀i a W,Top3 w n (.slice so sn sc) i a W->Q (.exit 0) a W) (h0:Top3 w n (.slice so sn sc) 0 a A) :
  (Code.loop rnd3).wp Tryz.prog Q a A:=by
 refine wp_loop (fun a W=>∃i,i<=sn/\Top3 w n (.slice so sn sc) i a W) (fun a _=>sn-(intOf (sl a.tmps 10)).toNat) ⟨0,Nat.zero_le _,h0⟩ ?_
 rintro a A ⟨i,hi0,ht⟩
 have h10:sl a.tmps 10=.int .i64 (i:Nat):=by
  obtain ⟨_,_,hS,_⟩:=ht
  exact hS.e10
 rw [rnd3_eq]
 refine wp_seq (Code.wp_mono ?_ (head3 a w A n so sn sc i ht))
 rintro e a1 w1 h1
 cases e with
 | normal =>
  obtain ⟨ht1,hi1⟩:=h1
  refine wp_seq (wp_block (Code.wp_mono ?_ (round3 a1 w w1 n so sn sc i ss hs (by omega) (by omega) ht1)))
  rintro e a2 w2 h2
  cases e with
  | normal =>
   refine Code.wp_mono ?_ (inc3 a2 w w2 n _ i (by omega) h2)
   rintro e a3 w3 h3
   cases e with
   | normal =>
    refine ⟨⟨i+1,by omega,h3⟩,?_⟩
    have h10':sl a3.tmps 10=.int .i64 ((i+1:Nat):Int):=by
     obtain ⟨_,_,hS,_⟩:=h3
     exact hS.e10
    show sn-(intOf (sl a3.tmps 10)).toNat<sn-(intOf (sl a.tmps 10)).toNat
    rw [h10',h10]
    simp [intOf]
    omega
   | _=>exact h3.elim
  | _=>exact h2.elim
 | exit q =>
  obtain ⟨ht1,rfl⟩:=h1
  exact hQ _ _ _ ht1
 | _=>exact h1.elim
theorem f3_eq:Tryz.f3.body=some (.seq (cL b3) (.seq (cL (cR b3)) (.seq (cL (cR (cR b3))) (.seq (cL (cR (cR (cR b3)))) (.seq (.seq (cL (cL (cR (cR (cR (cR b3)))))) (.block 0 (.loop rnd3))) (cR (cR (cR (cR (cR b3)))))))))):=rfl
theorem plays3 (n:Int)(c:PCfg)(v:Value)(ss:List PStep)(w:World)(hs:StepsIn w v ss):Calls Tryz.prog 3 #[.int .i64 n,cfgV c,v] w fun e w'=>e=.returned (.bool true)/\w.grownBy w' none:=by
 obtain ⟨so,sc,rfl,hsl,_⟩:=id hs
 obtain ⟨sn,hsn⟩:∃n,ss.length=n:=⟨_,rfl⟩
 rw [hsn] at hs hsl ⊢
 have HS:Hid (StepsIn w (.slice so sn sc) ss/\ss.length=sn/\sn<=1000000000000):=⟨hs,hsn,hsl⟩
 clear hs hsn hsl
 refine calls_of_wp Tryz.func3 f3_eq ?_
 simp only [Tryz.ntmps3,List.size_toArray,List.length_cons,List.length_nil,Nat.reduceAdd,Nat.reduceSub,Array.replicate_succ,Array.replicate_zero,List.push_toArray,List.append_toArray,List.nil_append,List.cons_append]
 obtain ⟨R,hR⟩:∃R,bodyPost Tryz.prog Tryz.f3 (fun e w'=>e=.returned (.bool true)/\w.grownBy w' none)=R:=⟨_,rfl⟩
 rw [hR]
 have HR:Hid (∀(a:Act) (w':World),a.defers=[]->sl a.tmps 6=.bool true->w.grownBy w' none->R .ret a w'):=by
  intro a w' h1 h2 h3
  rw [<-hR]
  exact ⟨h1,_,results_tmp rfl _ _ _,by first | exact ⟨congrArg Ending.returned h2,h3⟩ | (refine ⟨?_,h3⟩;simpa [sl] using h2)⟩
 clear hR
 unfold cfgV
 unfold b3
 dsimp only [Tryz.f3,Option.getD,cL,cR]
 obtain ⟨w1,hw1,H1⟩:=al1 w #[.int .i64 c.rows,.int .i64 c.bytes,.int .i64 c.window,.int .i64 c.queue,.int .i64 c.wait,.int .i64 c.timeout,.int .i64 c.idle,.int .i64 c.log] 25
 obtain ⟨cb,hcb⟩:∃x,w.heap.size=x:=⟨_,rfl⟩
 rw [hcb] at H1
 go_upto_region 1 with fail
 try rw [hw1]
 try rw [hcb]
 clear hw1 hcb
 have c0:=H1.out.1.cell 0
 have c1:=H1.out.1.cell 1
 have c2:=H1.out.1.cell 2
 have c3:=H1.out.1.cell 3
 have c4:=H1.out.1.cell 4
 have c5:=H1.out.1.cell 5
 have c6:=H1.out.1.cell 6
 have c7:=H1.out.1.cell 7
 simp at c0 c1 c2 c3 c4 c5 c6 c7
 go_wp2_with fail
 refine (new_cl n c w1).mono ?_
 rintro e w2 ⟨hg,hn | ⟨hok,b,rfl,hb,⟨oa,wo,wc,hc⟩⟩⟩
 ·obtain ⟨hno,rfl⟩:=hn
  have H2:Hid (w.grownBy w2 none/\okNew n c=false):=⟨grown_trans H1.out.2.1 hg,hno⟩
  replace c0:=hg.cell c0 (by simp)
  replace c1:=hg.cell c1 (by simp)
  replace c2:=hg.cell c2 (by simp)
  replace c3:=hg.cell c3 (by simp)
  replace c4:=hg.cell c4 (by simp)
  replace c5:=hg.cell c5 (by simp)
  replace c6:=hg.cell c6 (by simp)
  replace c7:=hg.cell c7 (by simp)
  clear hg hno
  go_wp2_with fail
  refine (rnew7 n c w w2 H2.out.1).mono ?_
  rintro e w3 ⟨hg,⟨_,rfl⟩ | ⟨hok,_⟩⟩
  ·have H3:Hid (w.grownBy w3 none):=grown_trans H2.out.1 hg
   clear hg c0 c1 c2 c3 c4 c5 c6 c7
   go_wp2_with fail
   refine loop3 _ w w3 n so sn sc ss HS.out.1 HS.out.2.1 HS.out.2.2 _ ?_ ⟨_,_,⟨rfl,rfl,rfl,rfl,rfl,rfl,rfl⟩,.inl ⟨rfl,rfl,H3.out⟩⟩
   rintro i a wc' ⟨p7,p9,hS,hB⟩
   obtain ⟨t,sl0,sl2,sl7,sl9,sl10,rfl⟩:=hS.eq
   unfold row260
   rw [sl0,sl2,sl7,sl9,sl10]
   clear sl0 sl2 sl7 sl9 sl10
   have HO:Hid (w.grownBy wc' none):=hB.gr
   clear hS hB
   simp only [Exit.inBlock,Exit.then,if_true]
   refine (‹∀(a:Act) (w:World),_->_› _ _ ?_)
   go_wp2_with fail
   refine (known22 wc').mono ?_
   rintro e w9 ⟨rfl,hg⟩
   have H9:Hid (w.grownBy w9 none):=grown_trans HO.out hg
   clear hg
   go_wp2_with fail
   exact HR.out _ _ rfl rfl H9.out
  ·rw [H2.out.2] at hok
   cases hok
 ·have H2:Hid (w.grownBy w2 none/\okNew n c=true/\Runs w w2 b (fresh n c)):=⟨grown_trans H1.out.2.1 hg,hok,⟨_,_,oa,wo,wc,hc,grown_trans H1.out.2.1 hg,fun i hi=>by
   have hi':i=b:=hi
   have:=H1.out.2.1.size
   omega⟩⟩
  replace c0:=hg.cell c0 (by simp)
  replace c1:=hg.cell c1 (by simp)
  replace c2:=hg.cell c2 (by simp)
  replace c3:=hg.cell c3 (by simp)
  replace c4:=hg.cell c4 (by simp)
  replace c5:=hg.cell c5 (by simp)
  replace c6:=hg.cell c6 (by simp)
  replace c7:=hg.cell c7 (by simp)
  clear hg hb hc hok
  go_wp2_with fail
  refine (rnew7 n c w w2 H2.out.1).mono ?_
  rintro e w3 ⟨hg,⟨hno,_⟩ | ⟨hok,k,rfl,hd⟩⟩
  ·rw [H2.out.2.1] at hno
   cases hno
  ·have HB:Hid (Both w w3 n 0 (.pointer (some ⟨b,0,none⟩)) (.pointer (some ⟨k,0,none⟩))):=by
    have hn:0<=n/\n<8:=by
     simp only [okNew,Bool.and_eq_true,decide_eq_true_eq] at hok
     exact hok.1
    refine .inr ⟨b,k,c,fresh n c,rfl,rfl,H2.out.2.2.grown hg,hd,?_,⟨Int.le_refl _,Int.le_refl _⟩,?_⟩
    ·simp only [fresh]
     omega
    ·simp only [fresh]
     omega
   clear hg hd hok c0 c1 c2 c3 c4 c5 c6 c7
   go_wp2_with fail
   refine loop3 _ w w3 n so sn sc ss HS.out.1 HS.out.2.1 HS.out.2.2 _ ?_ ⟨_,_,⟨rfl,rfl,rfl,rfl,rfl,rfl,rfl⟩,HB.out⟩
   rintro i a wc' ⟨p7,p9,hS,hB⟩
   obtain ⟨t,sl0,sl2,sl7,sl9,sl10,rfl⟩:=hS.eq
   unfold row260
   rw [sl0,sl2,sl7,sl9,sl10]
   clear sl0 sl2 sl7 sl9 sl10
   have HO:Hid (w.grownBy wc' none):=hB.gr
   clear hS hB
   simp only [Exit.inBlock,Exit.then,if_true]
   refine (‹∀(a:Act) (w:World),_->_› _ _ ?_)
   go_wp2_with fail
   refine (known22 wc').mono ?_
   rintro e w9 ⟨rfl,hg⟩
   have H9:Hid (w.grownBy w9 none):=grown_trans HO.out hg
   clear hg
   go_wp2_with fail
   exact HR.out _ _ rfl rfl H9.out
end Go.Proofs.YtanoabliahcbeaaGreat.Wn
