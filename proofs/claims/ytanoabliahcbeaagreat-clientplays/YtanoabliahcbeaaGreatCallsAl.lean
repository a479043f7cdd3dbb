import Derived.Test.YtanoabliahcbeaaGreatCpwAll
namespace Go.Proofs.YtanoabliahcbeaaGreat.Calls
open Go.RowKit Disk
open Names (Str)
structure RowAt (w:World)(b p:Nat)(r:Bs × Bs)(x y:Value):Prop where
 c0:w.cell? ⟨b,p,none⟩=some x
 c1:w.cell? ⟨b,p+1,none⟩=some y
 s0:Seg w x r.1
 s1:Seg w y r.2
theorem RowAt.grown {w w':World}{b p:Nat}{r:Bs × Bs}{x y:Value}(h:RowAt w b p r x y)(hg:w.grownBy w' none):RowAt w' b p r x y:=⟨hg.cell h.c0 (by simp),hg.cell h.c1 (by simp),h.s0.grown hg,h.s1.grown hg⟩
def Rws (w:World)(v:Value)(l:List (Bs × Bs)):Prop :=
 ∃ao cap,v=.slice ao l.length cap/\l.length<=1099511627776*64/\∀j (hj:j<l.length),∃b off x y,ao=some ⟨b,off,none⟩/\RowAt w b (off+j*2) l[j] x y
theorem Rws.grown {w w':World}{v:Value}{l:List (Bs × Bs)}(h:Rws w v l)(hg:w.grownBy w' none):Rws w' v l:=by
 obtain ⟨ao,cap,hv,hl,h4⟩:=h
 refine ⟨ao,cap,hv,hl,fun j hj=>?_⟩
 obtain ⟨b,off,x,y,e,h1⟩:=h4 j hj
 exact ⟨b,off,x,y,e,h1.grown hg⟩
theorem rws_open {w:World}{v:Value}{l:List (Bs × Bs)}(h:Rws w v l):∃ao n cap,v=.slice ao n cap/\l.length=n/\n<=1099511627776*64/\Hid (Rws w (.slice ao n cap) l):=by
 have h':=h
 obtain ⟨ao,cap,rfl,hl,_⟩:=h
 exact ⟨ao,_,cap,rfl,rfl,hl,h'⟩
theorem rws_at {w:World}{ao:Option Addr}{n cap:Nat}{l:List (Bs × Bs)}(h:Rws w (.slice ao n cap) l)(j:Nat)(hj:j<l.length):∃b off x y,ao=some ⟨b,off,none⟩/\RowAt w b (off+j*2) l[j] x y:=by
 obtain ⟨ao',cap',hv,_,h4⟩:=h
 simp at hv
 obtain ⟨rfl,_,_⟩:=hv
 exact h4 j hj
structure OutAt (w:World)(b p:Nat)(o:POut)(x y:Value):Prop where
 c0:w.cell? ⟨b,p,none⟩=some (.bool o.has)
 c1:w.cell? ⟨b,p+1,none⟩=some x
 c2:w.cell? ⟨b,p+2,none⟩=some y
structure OutSeg (w:World)(x y:Value)(o:POut):Prop where
 value:Seg w x o.value
 rows:Rws w y o.rows
theorem OutAt.grown {w w':World}{b p:Nat}{r:POut}{x y:Value}(h:OutAt w b p r x y)(hg:w.grownBy w' none):OutAt w' b p r x y:=⟨hg.cell h.c0 (by simp),hg.cell h.c1 (by simp),hg.cell h.c2 (by simp)⟩
theorem OutSeg.grown {w w':World}{r:POut}{x y:Value}(h:OutSeg w x y r)(hg:w.grownBy w' none):OutSeg w' x y r:=⟨h.value.grown hg,h.rows.grown hg⟩
def Outs (w:World)(v:Value)(l:List POut):Prop :=
 ∃ao cap,v=.slice ao l.length cap/\l.length<=1099511627776*64/\∀j (hj:j<l.length),∃b off x y,ao=some ⟨b,off,none⟩/\OutAt w b (off+j*3) l[j] x y/\OutSeg w x y l[j]
theorem Outs.grown {w w':World}{v:Value}{l:List POut}(h:Outs w v l)(hg:w.grownBy w' none):Outs w' v l:=by
 obtain ⟨ao,cap,hv,hl,h4⟩:=h
 refine ⟨ao,cap,hv,hl,fun j hj=>?_⟩
 obtain ⟨b,off,x,y,e,h1,h2⟩:=h4 j hj
 exact ⟨b,off,x,y,e,h1.grown hg,h2.grown hg⟩
theorem outs_open {w:World}{v:Value}{l:List POut}(h:Outs w v l):∃ao n cap,v=.slice ao n cap/\l.length=n/\n<=1099511627776*64/\Hid (Outs w (.slice ao n cap) l):=by
 have h':=h
 obtain ⟨ao,cap,rfl,hl,_⟩:=h
 exact ⟨ao,_,cap,rfl,rfl,hl,h'⟩
theorem outs_at {w:World}{ao:Option Addr}{n cap:Nat}{l:List POut}(h:Outs w (.slice ao n cap) l)(j:Nat)(hj:j<l.length):∃b off x y,ao=some ⟨b,off,none⟩/\OutAt w b (off+j*3) l[j] x y/\OutSeg w x y l[j]:=by
 obtain ⟨ao',cap',hv,_,h4⟩:=h
 simp at hv
 obtain ⟨rfl,_,_⟩:=hv
 exact h4 j hj
theorem OutSeg.shapes {w:World}{x y:Value}{o:POut}(h:OutSeg w x y o):∃a a' b b',x=.slice a o.value.length a'/\y=.slice b o.rows.length b':=by
 obtain ⟨a,a',h1⟩:=h.value.shape
 obtain ⟨b,b',h2,_⟩:=h.rows
 exact ⟨a,a',b,b',h1,h2⟩
theorem POut.ext' {a b:POut}:a=b<->a.has=b.has/\a.value=b.value/\a.rows=b.rows:=by
 constructor
 ·rintro rfl;simp
 ·rintro ⟨h1,h2,h3⟩
  cases a;cases b;simp_all
theorem PRes.ext' {a b:PRes}:a=b<->a.abort=b.abort/\a.place=b.place/\a.outs=b.outs:=by
 constructor
 ·rintro rfl;simp
 ·rintro ⟨h1,h2,h3⟩
  cases a;cases b;simp_all
end Go.Proofs.YtanoabliahcbeaaGreat.Calls
