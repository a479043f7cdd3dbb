import Derived.Test.YtadhfejefpildaaGreatCrcAll
import Derived.Test.YtadhfejefpildaaGreatDiskAll
import Derived.Laws.CopyOwn
import Derived.Deep.DeepCutAuto
import Derived.Laws.StructEq
import Derived.Test.YtadhfejefpildaaGreatWireAll
set_option maxHeartbeats 4000000
set_option maxRecDepth 100000
namespace Go.Proofs.YtadhfejefpildaaGreat.Frame
open Crc (sum iB)
def be (n:Nat):List UInt8:=[UInt8.ofNat (n / 16777216),UInt8.ofNat (n / 65536),UInt8.ofNat (n / 256),UInt8.ofNat n]
def unbe (a b c d:UInt8):Nat:=a.toNat*16777216+b.toNat*65536+c.toNat*256+d.toNat
theorem nP (n:Nat):(be n).length=4:=rfl
theorem fk (a b c d:UInt8):unbe a b c d<4294967296:=by
 unfold unbe
 have:=a.toNat_lt;have:=b.toNat_lt;have:=c.toNat_lt;have:=d.toNat_lt
 omega
theorem tT (n:Nat)(h:n<4294967296):unbe (UInt8.ofNat (n / 16777216)) (UInt8.ofNat (n / 65536)) (UInt8.ofNat (n / 256)) (UInt8.ofNat n)=n:=by
 unfold unbe
 simp only [UInt8.toNat_ofNat']
 omega
def pre5 (k:Nat)(n:Nat):List UInt8:=UInt8.ofNat k :: be n
def hdr (k:Nat)(L:List UInt8):List UInt8:=pre5 k L.length ++ be (sum (pre5 k L.length ++ L))
def frm (k:Nat)(L:List UInt8):List UInt8:=hdr k L ++ L
theorem fK (k n:Nat):(pre5 k n).length=5:=rfl
theorem gh (k:Nat)(L:List UInt8):(hdr k L).length=9:=rfl
theorem dN (k:Nat)(L:List UInt8):(frm k L).length=9+L.length:=by unfold frm;rw [List.length_append,gh]
def ba (L:List UInt8):Nat:=unbe (L.getD 1 0) (L.getD 2 0) (L.getD 3 0) (L.getD 4 0)
theorem rZ (L:List UInt8):ba L<4294967296:=fk _ _ _ _
def aG (L:List UInt8):List UInt8:=(L.drop 9).take (ba L)
def aW (L:List UInt8):Nat:=(L.getD 0 0).toNat
theorem p8 (L:List UInt8):aW L<256:=UInt8.toNat_lt _
def spl (L:List UInt8):Nat:=if L.length<9 then 140 else if 2147483647<ba L then 141 else if L.length-9<ba L then 140 else 0
def code (L:List UInt8):Nat:=if spl L≠0 then spl L else if L.take 9=hdr (aW L) (aG L) then 0 else 141
theorem cj {L:List UInt8}(h:spl L=0):(aG L).length=ba L/\9+ba L<=L.length/\ba L<=2147483647:=by
 unfold spl at h
 split at h
 ·omega
 ·split at h
  ·omega
  ·split at h
   ·omega
   ·unfold aG
    simp only [List.length_take,List.length_drop]
    omega
theorem hZ {L:List UInt8}(h:code L=0):spl L=0/\L.take 9=hdr (aW L) (aG L):=by
 unfold code at h
 by_cases hs:spl L=0
 ·rw [if_neg (by simpa using hs)] at h
  split at h
  ·rename_i e;exact ⟨hs,e⟩
  ·omega
 ·rw [if_pos hs] at h;exact absurd h hs
theorem kA (k:Nat)(L R:List UInt8)(h:L.length<4294967296):ba (frm k L ++ R)=L.length:=by
 have:ba (frm k L ++ R)=unbe (UInt8.ofNat (L.length / 16777216)) (UInt8.ofNat (L.length / 65536)) (UInt8.ofNat (L.length / 256)) (UInt8.ofNat L.length):=rfl
 rw [this,tT _ h]
theorem fm (k:Nat)(L R:List UInt8)(h:k<256):aW (frm k L ++ R)=k:=by
 have:aW (frm k L ++ R)=(UInt8.ofNat k).toNat:=rfl
 rw [this,UInt8.toNat_ofNat'];omega
theorem me (k:Nat)(L R:List UInt8):(frm k L ++ R).drop (9+L.length)=R:=by
 rw [<-dN k L,List.drop_left]
theorem fo (k:Nat)(L R:List UInt8)(h:L.length<4294967296):aG (frm k L ++ R)=L:=by
 unfold aG
 rw [kA k L R h]
 unfold frm
 rw [List.append_assoc,show (9:Nat)=(hdr k L).length from rfl,List.drop_left,List.take_left]
theorem p_ (k:Nat)(L R:List UInt8):(frm k L ++ R).take 9=hdr k L:=by
 unfold frm
 rw [List.append_assoc,show (9:Nat)=(hdr k L).length from rfl,List.take_left]
theorem jE (k:Nat)(L R:List UInt8)(hk:k<256)(h:L.length<=2147483647):code (frm k L ++ R)=0:=by
 have hs:spl (frm k L ++ R)=0:=by
  unfold spl
  rw [kA k L R (by omega),List.length_append,dN]
  rw [if_neg (by omega),if_neg (by omega),if_neg (by omega)]
 unfold code
 rw [if_neg (by simpa using hs),fm k L R hk,fo k L R (by omega),p_,if_pos rfl]
theorem qa {L:List UInt8}(h:code L=0):L=frm (aW L) (aG L) ++ L.drop (9+ba L):=by
 obtain ⟨hs,he⟩:=hZ h
 obtain ⟨h1,h2,h3⟩:=cj hs
 unfold frm
 rw [<-he]
 unfold aG
 rw [<-List.drop_drop,List.append_assoc,List.take_append_drop,List.take_append_drop]
abbrev Frs:=List (Int × List UInt8)
def flat (l:Frs):List UInt8:=(l.map fun f=>frm f.1.toNat f.2).flatten
theorem r_:flat []=[]:=rfl
theorem dj (f:Int × List UInt8)(l:Frs):flat (f :: l)=frm f.1.toNat f.2 ++ flat l:=by simp [flat]
theorem et (l m:Frs):flat (l ++ m)=flat l ++ flat m:=by simp [flat]
def May (l:Frs):Prop:=∀f ∈ l,0<=f.1/\f.1<=255/\f.2.length<=2147483647
theorem May.cons {f:Int × List UInt8}{l:Frs}(h:May (f :: l)):(0<=f.1/\f.1<=255/\f.2.length<=2147483647)/\May l:=⟨h f (by simp),fun g hg=>h g (by simp [hg])⟩
structure Sc (L:List UInt8)(l:Frs)(R:List UInt8):Prop where
 eq:L=flat l ++ R
 may:May l
 last:R≠[]->code R≠0
def ends (R:List UInt8):Nat:=if R=[] then 0 else code R
theorem kY (R:List UInt8)(h:R≠[]->code R≠0):Sc R [] R:=⟨rfl,fun f hf=>by simp at hf,h⟩
theorem tU {L:List UInt8}{l:Frs}{R:List UInt8}(hc:code L=0)(h:Sc (L.drop (9+ba L)) l R):Sc L ((((aW L:Nat):Int),aG L) :: l) R:=by
 obtain ⟨hs,_⟩:=hZ hc
 obtain ⟨h1,h2,h3⟩:=cj hs
 have hk:=p8 L
 refine ⟨?_,?_,h.last⟩
 ·rw [dj,List.append_assoc,<-h.eq]
  exact qa hc
 ·intro f hf
  simp at hf
  rcases hf with rfl | hf
  ·simp only
   omega
  ·exact h.may f hf
end Go.Proofs.YtadhfejefpildaaGreat.Frame
namespace Go.Proofs.YtadhfejefpildaaGreat.Frame
open Crc (sum iB num oG lM)
theorem eU:∀(n:Nat) (L:List UInt8),L.length<=n->∃l R,Sc L l R
 | 0,L,h=>⟨[],L,kY L (fun hn=>absurd (List.eq_nil_of_length_eq_zero (by omega)) hn)⟩
 | n+1,L,h=>by
  by_cases hn:L=[]
  ·exact ⟨[],L,kY L (fun h=>absurd hn h)⟩
  ·by_cases hc:code L=0
   ·obtain ⟨hs,_⟩:=hZ hc
    obtain ⟨_,h2,_⟩:=cj hs
    obtain ⟨l,R,hl⟩:=eU n (L.drop (9+ba L)) (by simp;omega)
    exact ⟨_,R,tU hc hl⟩
   ·exact ⟨[],L,kY L (fun _=>hc)⟩
theorem sa (k:Nat)(L R:List UInt8):frm k L ++ R≠[]:=by
 intro h
 have:=congrArg List.length h
 rw [List.length_append,dN] at this
 simp at this
theorem qb {k k':Nat}{L L' R R':List UInt8}(hk:k<256)(hk':k'<256)(hl:L.length<=2147483647)(hl':L'.length<=2147483647)(h:frm k L ++ R=frm k' L' ++ R'):k=k'/\L=L'/\R=R':=by
 have e1:k=k':=by rw [<-fm k L R hk,h,fm k' L' R' hk']
 have e2:L=L':=by rw [<-fo k L R (by omega),h,fo k' L' R' (by omega)]
 refine ⟨e1,e2,?_⟩
 have:=me k L R
 rw [h,e2,me] at this
 exact this.symm
theorem iE:∀(l:Frs) {L:List UInt8} {l':Frs} {R R':List UInt8},Sc L l R->Sc L l' R'->l=l'/\R=R'
 | [],L,l',R,R',h,h'=>by
  have e:L=R:=h.eq
  cases l' with
  | nil=>exact ⟨rfl,e.symm.trans h'.eq⟩
  | cons f t =>
   have hf:=h'.may.cons
   have e2:=h'.eq
   rw [dj,List.append_assoc] at e2
   exfalso
   refine h.last (by rw [<-e,e2];exact sa _ _ _) ?_
   rw [<-e,e2]
   exact jE _ _ _ (by omega) hf.1.2.2
 | f :: t,L,l',R,R',h,h'=>by
  have hf:=h.may.cons
  have e:=h.eq
  rw [dj,List.append_assoc] at e
  cases l' with
  | nil =>
   have e2:L=R':=h'.eq
   exfalso
   refine h'.last (by rw [<-e2,e];exact sa _ _ _) ?_
   rw [<-e2,e]
   exact jE _ _ _ (by omega) hf.1.2.2
  | cons g u =>
   have hg:=h'.may.cons
   have e2:=h'.eq
   rw [dj,List.append_assoc] at e2
   obtain ⟨q1,q2,q3⟩:=qb (by omega) (by omega) hf.1.2.2 hg.1.2.2 (e.symm.trans e2)
   obtain ⟨r1,r2⟩:=iE t (L:=flat t ++ R) ⟨rfl,hf.2,h.last⟩ ⟨q3,hg.2,h'.last⟩
   refine ⟨?_,r2⟩
   rw [r1]
   congr 1
   exact Prod.ext (by omega) q2
theorem tV {l:Frs}(h:May l):Sc (flat l) l []:=⟨by simp,h,fun h=>absurd rfl h⟩
theorem mf:∀(l:Frs),(flat l).length=(l.map fun f=>9+f.2.length).sum
 | []=>rfl
 | f :: t=>by rw [dj,List.length_append,dN,mf t];simp
theorem fL (l:Frs)(k:Nat)(h:k<l.length):flat (l.take (k+1))=flat (l.take k) ++ frm l[k].1.toNat l[k].2:=by
 rw [List.take_succ_eq_append_getElem h,et]
 simp [flat]
theorem cx (l:Frs)(k:Nat)(h:k<l.length):(flat (l.take (k+1))).length=(flat (l.take k)).length+(9+l[k].2.length):=by
 rw [fL l k h,List.length_append,dN]
theorem fp (l:Frs)(k:Nat):(flat (l.take k)).length<=(flat l).length:=by
 have:flat l=flat (l.take k) ++ flat (l.drop k):=by rw [<-et,List.take_append_drop]
 rw [this,List.length_append]
 omega
theorem May.take {l:Frs}(h:May l)(k:Nat):May (l.take k):=fun f hf=>h f (List.mem_of_mem_take hf)
theorem Sc.rest {L:List UInt8}{l:Frs}{R:List UInt8}(h:Sc L l R)(k:Nat)(hk:k<l.length):L.drop (flat (l.take k)).length=frm l[k].1.toNat l[k].2 ++ (flat (l.drop (k+1)) ++ R):=by
 have:L=flat (l.take k) ++ (frm l[k].1.toNat l[k].2 ++ (flat (l.drop (k+1)) ++ R)):=by
  rw [h.eq,<-List.append_assoc (frm _ _),<-dj,<-List.append_assoc,<-et]
  simp
 rw [this,List.drop_left]
theorem Sc.end {L:List UInt8}{l:Frs}{R:List UInt8}(h:Sc L l R):L.drop (flat l).length=R:=by
 rw [h.eq,List.drop_left]
theorem Sc.len {L:List UInt8}{l:Frs}{R:List UInt8}(h:Sc L l R):L.length=(flat l).length+R.length:=by rw [h.eq,List.length_append]
theorem Sc.at {L:List UInt8}{l:Frs}{R:List UInt8}(h:Sc L l R)(k:Nat)(hk:k<l.length):code (L.drop (flat (l.take k)).length)=0/\((aW (L.drop (flat (l.take k)).length):Nat):Int)=l[k].1/\aG (L.drop (flat (l.take k)).length)=l[k].2/\(flat (l.take k)).length+(9+l[k].2.length)<=L.length:=by
 have hm:=h.may l[k] (List.getElem_mem hk)
 rw [h.rest k hk]
 refine ⟨jE _ _ _ (by omega) hm.2.2,?_,fo _ _ _ (by omega),?_⟩
 ·rw [fm _ _ _ (by omega)];omega
 ·rw [<-cx l k hk,h.eq,List.length_append]
  have:=fp l (k+1)
  omega
theorem Sc.count {L:List UInt8}{l:Frs}{R:List UInt8}(h:Sc L l R):l.length*9<=L.length:=by
 rw [h.eq,List.length_append,mf]
 have:∀l:Frs,l.length*9<=(l.map fun f=>9+f.2.length).sum:=fun l=>by
  induction l with
  | nil=>simp
  | cons f t ih=>simp;omega
 have:=this l
 omega
end Go.Proofs.YtadhfejefpildaaGreat.Frame
namespace Go.Proofs.YtadhfejefpildaaGreat.Frame
open Go.RowKit Disk
theorem kL {w:World}{b off:Nat}{v:Value}(h:w.cell? ⟨b,off,none⟩=some v):b<w.heap.size:=by
 refine Nat.lt_of_not_le fun hle=>?_
 unfold World.cell? at h
 simp only at h
 rw [Array.getElem?_eq_none hle] at h
 simp at h
theorem mg {w w':World}{v:Value}{L:List UInt8}(h:Seg w v L)(hs:L≠[]->∀b off n c,v=.slice (some ⟨b,off,none⟩) n c->b<w.heap.size->w'.heap[b]? = w.heap[b]?):Seg w' v L:=by
 obtain ⟨ao,cap,hv,h1,h2,h3,h4⟩:=h
 refine ⟨ao,cap,hv,h1,h2,h3,fun j hj=>?_⟩
 obtain ⟨b,off,e,hc⟩:=h4 j hj
 refine ⟨b,off,e,?_⟩
 have hb:b<w.heap.size:=kL hc
 have:=hs (fun h0=>by rw [h0] at hj;simp at hj) b off _ _ (by rw [hv,e]) hb
 unfold World.cell? at hc ⊢
 simp only at hc ⊢
 rw [this]
 exact hc
theorem dK {w:World}{v:Value}{L:List UInt8}(h:Seg w v L)(hL:L≠[]){b off n c:Nat}(e:v=.slice (some ⟨b,off,none⟩) n c):b<w.heap.size:=by
 obtain ⟨ao,cap,hv,h1,h2,h3,h4⟩:=h
 obtain ⟨b',off',e',hc⟩:=h4 0 (List.length_pos_iff.2 hL)
 rw [hv,e'] at e
 simp at e
 rw [<-e.1.1]
 exact kL hc
def FSeg (w:World)(v:Value)(l:Frs):Prop :=
 ∃ao cap,v=.slice ao l.length cap/\l.length<=4398046511104/\∀j (hj:j<l.length),∃b off u,ao=some ⟨b,off,none⟩/\w.cell? ⟨b,off+j*2,none⟩=some (.int .i64 l[j].1)/\w.cell? ⟨b,off+j*2+1,none⟩=some u/\Seg w u l[j].2
theorem FSeg.shape {w:World}{v:Value}{l:Frs}(h:FSeg w v l):∃ao cap,v=.slice ao l.length cap:=by obtain ⟨ao,cap,h,_⟩:=h;exact ⟨ao,cap,h⟩
theorem FSeg.grown {w w':World}{v:Value}{l:Frs}(h:FSeg w v l)(hg:w.grownBy w' none):FSeg w' v l:=by
 obtain ⟨ao,cap,hv,hl,h4⟩:=h
 refine ⟨ao,cap,hv,hl,fun j hj=>?_⟩
 obtain ⟨b,off,u,e,h1,h2,h3⟩:=h4 j hj
 exact ⟨b,off,u,e,hg.cell h1 (by simp),hg.cell h2 (by simp),h3.grown hg⟩
theorem sc {w:World}{k:Int}{v:Value}{L:List UInt8}(h:Seg w v L):FSeg (w.alloc (.cells #[.int .i64 k,v] 109)) (.slice (some ⟨w.heap.size,0,none⟩) 1 1) [(k,L)]:=by
 refine ⟨_,1,rfl,by simp,fun j hj=>?_⟩
 have e:j=0:=by simp at hj;omega
 subst e
 refine ⟨w.heap.size,0,v,rfl,?_,?_,h.grown (World.grownBy_alloc _ _ _)⟩
 ·rw [cell_of_row _ _ _ _ _ _ (heap_alloc_new w _)];rfl
 ·rw [cell_of_row _ _ _ _ _ _ (heap_alloc_new w _)];rfl
def fc:List Value->Frs->List Value
 | v :: vs,f :: l=>.int .i64 f.1 :: v :: fc vs l
 | _,_=>[]
theorem se:∀(vs:List Value) (l:Frs) (j:Nat) (h:j<vs.length) (h':j<l.length),(fc vs l)[j*2]? = some (.int .i64 l[j].1)/\(fc vs l)[j*2+1]? = some vs[j]
 | [],_,j,h,_=>absurd h (by simp)
 | v :: vs,[],j,_,h=>absurd h (by simp)
 | v :: vs,f :: l,0,_,_=>⟨rfl,rfl⟩
 | v :: vs,f :: l,j+1,h,h'=>by
  have:=se vs l j (by simpa using h) (by simpa using h')
  rw [show (j+1)*2=j*2+1+1 from by omega]
  simpa [fc] using this
theorem oQ:∀(vs:List Value) (l:Frs) (v:Value) (f:Int × List UInt8),vs.length=l.length->fc (vs ++ [v]) (l ++ [f])=fc vs l ++ [.int .i64 f.1,v]
 | [],[],v,f,_=>rfl
 | x :: vs,y :: l,v,f,h=>by simp [fc,oQ vs l v f (by simpa using h)]
structure FRow (w:World)(B:Nat)(v:Value)(vs:List Value)(l:Frs):Prop where
 row:w.ownsRow B 109 2 v l.length (fc vs l)
 len:vs.length=l.length
 each:∀j (h:j<vs.length) (h':j<l.length),Own w B vs[j] l[j].2
 far:∀i j (hi:i<vs.length) (hj:j<vs.length),i≠j->∀a,vs[i].ownBlock=some a->vs[j].ownBlock≠some a
theorem mh (w:World)(B:Nat):FRow w B (.slice none 0 0) [] []:=⟨World.ownsRow_nil _ _ _ _,rfl,fun j h=>absurd h (by simp),fun i j hi=>absurd hi (by simp)⟩
def InF (v:Value)(vs:List Value)(k:Nat):Prop:=v.ownBlock=some k\/∃j,∃h:j<vs.length,vs[j].ownBlock=some k
theorem FRow.lt {w:World}{B:Nat}{v:Value}{vs:List Value}{l:Frs}(h:FRow w B v vs l){k:Nat}(hk:InF v vs k):B<=k/\k<w.heap.size:=by
 rcases hk with hk | ⟨j,hj,hk⟩
 ·exact World.ownsRow.lt h.row k hk
 ·exact (h.each j hj (by rw [<-h.len];exact hj)).lt k hk
theorem FRow.same {w w':World}{B:Nat}{v:Value}{vs:List Value}{l:Frs}(h:FRow w B v vs l)(hs:∀k,InF v vs k->w'.heap[k]? = w.heap[k]?):FRow w' B v vs l:=by
 refine ⟨⟨h.row.1,?_⟩,h.len,fun j hj hj'=>(h.each j hj hj').same fun k hk=>hs k (.inr ⟨j,hj,hk⟩),h.far⟩
 rcases h.row.2 with h2 | ⟨g,cap,cur,e,hb,hg,h3⟩
 ·exact .inl h2
 ·exact .inr ⟨g,cap,cur,e,hb,(hs g (.inl (by rw [e];rfl))).trans hg,h3⟩
theorem FRow.grown {w w':World}{B:Nat}{v:Value}{vs:List Value}{l:Frs}(h:FRow w B v vs l)(hg:w.grownBy w' none):FRow w' B v vs l:=h.same fun k hk=>hg.block k (h.lt hk).2 (by simp)
theorem FRow.mono {w:World}{B B':Nat}{v:Value}{vs:List Value}{l:Frs}(h:FRow w B v vs l)(hB:B'<=B):FRow w B' v vs l:=by
 refine ⟨⟨h.row.1,?_⟩,h.len,fun j hj hj'=>(h.each j hj hj').mono hB,h.far⟩
 rcases h.row.2 with h2 | ⟨g,cap,cur,e,hb,hg⟩
 ·exact .inl h2
 ·exact .inr ⟨g,cap,cur,e,by omega,hg⟩
theorem nQ {w:World}{B:Nat}{v:Value}{n:Nat}{xs:List Value}{b t:Nat}{c:Array Value}(h:w.ownsRow B 109 2 v n xs)(hb:Blk w b t c)(ht:t≠109):v.ownBlock≠some b:=by
 rcases h.2 with ⟨rfl,_⟩ | ⟨g,cap,cur,rfl,_,hg,_⟩
 ·simp [Value.ownBlock]
 ·intro e
  simp [Value.ownBlock] at e
  subst e
  unfold Blk at hb
  rw [hg] at hb
  simp at hb
  exact ht hb.2.symm
theorem kO {w:World}{B:Nat}{v:Value}{L:List UInt8}(h:Own w B v L){k:Nat}(hk:v.ownBlock=some k):∃cur,Blk w k 5 cur:=by
 rcases h.2 with ⟨rfl,_⟩ | ⟨g,c,cur,e,hb,hg,_⟩
 ·simp [Value.ownBlock] at hk
 ·subst e
  simp [Value.ownBlock] at hk
  subst hk
  exact ⟨cur,hg⟩
theorem sf {w:World}{B B':Nat}{v u:Value}{n:Nat}{xs:List Value}{L:List UInt8}(h:w.ownsRow B 109 2 v n xs)(hu:Own w B' u L){k:Nat}(hk:u.ownBlock=some k):v.ownBlock≠some k:=by
 obtain ⟨cur,hb⟩:=kO hu hk
 exact nQ h hb (by decide)
theorem FRow.snoc {w w':World}{B:Nat}{v v' u:Value}{vs:List Value}{l:Frs}{f:Int × List UInt8}(h:FRow w B v vs l)(hu:Own w B u f.2)(hn:∀j (hj:j<vs.length) a,vs[j].ownBlock=some a->u.ownBlock≠some a)(hg:w.grownBy w' v.ownBlock)(hr:w'.ownsRow B 109 2 v' (l.length+1) (fc vs l ++ [.int .i64 f.1,u])):FRow w' B v' (vs ++ [u]) (l ++ [f]):=by
 have keep:∀{x M},Own w B x M->Own w' B x M:=fun {x M} hx=>hx.same fun k hk=>hg.block k (hx.lt k hk).2 (fun e=>sf h.row hx hk e.symm)
 have hl:=h.len
 refine ⟨by rw [oQ _ _ _ _ h.len,List.length_append];exact hr,by simp [h.len],fun j hj hj'=>?_,fun i j hi hj hij a ha e=>?_⟩
 ·by_cases hlt:j<vs.length
  ·rw [List.getElem_append_left hlt,List.getElem_append_left (by omega)]
   exact keep (h.each j hlt (by omega))
  ·have e1:j=vs.length:=by simp at hj;omega
   subst e1
   have e2:(vs ++ [u])[vs.length]=u:=by simp
   have e3:(l ++ [f])[vs.length]'hj'=f:=by simp [hl]
   rw [e2,e3]
   exact keep hu
 ·simp at hi hj
  by_cases hi2:i<vs.length
  ·rw [List.getElem_append_left hi2] at ha
   by_cases hj2:j<vs.length
   ·rw [List.getElem_append_left hj2] at e
    exact h.far i j hi2 hj2 hij a ha e
   ·have e1:j=vs.length:=by omega
    subst e1
    have e2:(vs ++ [u])[vs.length]=u:=by simp
    rw [e2] at e
    exact hn i hi2 a ha e
  ·have e1:i=vs.length:=by omega
   subst e1
   have e2:(vs ++ [u])[vs.length]=u:=by simp
   rw [e2] at ha
   have hj2:j<vs.length:=by omega
   rw [List.getElem_append_left hj2] at e
   exact hn j hj2 a e ha
theorem InF.snoc {_v v' u:Value}{vs:List Value}{k:Nat}(h:InF v' (vs ++ [u]) k):v'.ownBlock=some k\/u.ownBlock=some k\/∃j,∃h:j<vs.length,vs[j].ownBlock=some k:=by
 rcases h with h | ⟨j,hj,h⟩
 ·exact .inl h
 ·by_cases hlt:j<vs.length
  ·rw [List.getElem_append_left hlt] at h
   exact .inr (.inr ⟨j,hlt,h⟩)
  ·have e1:j=vs.length:=by simp at hj;omega
   subst e1
   exact .inr (.inl (by simpa using h))
theorem FRow.cell {w:World}{B:Nat}{v:Value}{vs:List Value}{l:Frs}(h:FRow w B v vs l)(j:Nat)(hj:j<l.length)(hj':j<vs.length):∃g cap,v=.slice (some ⟨g,0,none⟩) l.length cap/\w.cell? ⟨g,j*2,none⟩=some (.int .i64 l[j].1)/\w.cell? ⟨g,j*2+1,none⟩=some vs[j]/\B<=g:=by
 rcases h.row.2 with ⟨_,h0⟩ | ⟨g,cap,cur,e,hb,hg,h1,h2,h3,h4⟩
 ·omega
 ·have hr:w.ownsRow B 109 2 (.slice (some ⟨g,0,none⟩) l.length cap) l.length (fc vs l):=by rw [<-e];exact h.row
  have hf:=se vs l j hj' hj
  refine ⟨g,cap,e,?_,?_,hb⟩
  ·rw [hr.cellAt (j*2) (by omega)];exact hf.1
  ·rw [hr.cellAt (j*2+1) (by omega)];exact hf.2
theorem FRow.shape {w:World}{B:Nat}{v:Value}{vs:List Value}{l:Frs}(h:FRow w B v vs l):∃ao cap,v=.slice ao l.length cap:=by
 rcases h.row.2 with ⟨rfl,h0⟩ | ⟨g,cap,cur,rfl,_⟩
 ·exact ⟨none,0,by rw [h0]⟩
 ·exact ⟨_,_,rfl⟩
theorem Tryz.info109:(Tryz.prog.info? 109).map (fun i=>(i.zero,i.size,i.bytes))=some (some (.agg #[.int .i64 0,.slice none 0 0]),2,32):=by kernel_rfl
theorem Tryz.info23:(Tryz.prog.info? 23).map (fun i=>(i.zero,i.size,i.bytes))=some (some (.slice none 0 0),1,24):=by kernel_rfl
theorem add_zero (g:Nat):(⟨g,0,none⟩:Addr).add 0=⟨g,0,none⟩:=by unfold Addr.add;simp
theorem oR (g:Nat):(⟨g,0,none⟩:Addr).add 1=⟨g,1,none⟩:=by unfold Addr.add;simp
theorem tW {o:Oper}{a:Act}{K:Act->World->Prop}{Q:Exit->Act->World->Prop}(w:World)(s x:Operand)
  (ho:o.op=.call { callee:=.builtin .append,args:=#[s,x],argTypes:=#[100,100] })
  (B:Nat) (v:Value) (vs:List Value) (l:Frs) (k:Int) (u:Value) (g:Nat) (hs:a.eval s=v) (hx:a.eval x=.slice (some ⟨g,0,none⟩) 1 1) (hrow:w.ownsRow B 109 2 v l.length (fc vs l)) (hc0:w.cell? ⟨g,0,none⟩=some (.int .i64 k)) (hc1:w.cell? ⟨g,1,none⟩=some u) (h1:u.oneCell'=true) (hb:(l.length+1)*32<=140737488355328) (hB:B<=w.heap.size)
  (h:∀g' cap' w',w'.ownsRow B 109 2 (.slice (some ⟨g',0,none⟩) (l.length+1) cap') (l.length+1) (fc vs l ++ [.int .i64 k,u])->w.grownBy w' v.ownBlock->(v.ownBlock=some g'\/g'=w.heap.size)->K (a.put o.dst (.slice (some ⟨g',0,none⟩) (l.length+1) cap')) w'):o.wp Tryz.prog a w K Q:=by
 obtain ⟨i0,hi,hz0,hz1,hz2⟩:=info_parts Tryz.info109
 refine wp_append_lies w s x 100 ho B 109 i0 (.agg #[.int .i64 0,.slice none 0 0]) 2 32 Tryz.underlying100 hi hz0 hz1 hz2 rfl (by decide) v l.length (fc vs l) hs hrow ⟨g,0,none⟩ 1 1 [.int .i64 k,u] hx rfl ?_ ?_ (by decide) (by unfold maxLen;omega) hb hB w.heap.size rfl ?_
 ·intro j y hj
  match j,hj with
  | 0,hj=>simp at hj;subst hj;rw [add_zero];exact hc0
  | 1,hj=>simp at hj;subst hj;rw [oR];exact hc1
  | j+2,hj=>simp at hj
 ·intro y hy
  simp at hy
  rcases hy with rfl | rfl
  ·rfl
  ·exact h1
 ·intro g' cap' w' h2 h3 h4 _
  exact h g' cap' w' h2 h3 h4
theorem tX {o:Oper}{a:Act}{K:Act->World->Prop}{Q:Exit->Act->World->Prop}(w:World)(s x:Operand)
  (ho:o.op=.call { callee:=.builtin .append,args:=#[s,x],argTypes:=#[113,113] })
  (B:Nat) (v:Value) (vs:List Value) (n:Nat) (hn:vs.length=n) (u1 u2:Value) (g:Nat) (hs:a.eval s=v) (hx:a.eval x=.slice (some ⟨g,0,none⟩) 2 2) (hrow:w.ownsRow B 23 1 v n vs) (hc0:w.cell? ⟨g,0,none⟩=some u1) (hc1:w.cell? ⟨g,1,none⟩=some u2) (h1:u1.oneCell'=true) (h2:u2.oneCell'=true) (hb:(n+2)*24<=140737488355328) (hB:B<=w.heap.size)
  (h:∀g' cap' w',w'.ownsRow B 23 1 (.slice (some ⟨g',0,none⟩) (n+2) cap') (n+2) (vs ++ [u1,u2])->w.grownBy w' v.ownBlock->(v.ownBlock=some g'\/g'=w.heap.size)->K (a.put o.dst (.slice (some ⟨g',0,none⟩) (n+2) cap')) w'):o.wp Tryz.prog a w K Q:=by
 obtain ⟨i0,hi,hz0,hz1,hz2⟩:=info_parts Tryz.info23
 subst hn
 refine wp_append_lies w s x 113 ho B 23 i0 (.slice none 0 0) 1 24 Tryz.underlying113 hi hz0 hz1 hz2 rfl (by decide) v vs.length vs hs hrow ⟨g,0,none⟩ 2 2 [u1,u2] hx rfl ?_ ?_ (by decide) (by unfold maxLen;omega) hb hB w.heap.size rfl ?_
 ·intro j y hj
  match j,hj with
  | 0,hj=>simp at hj;subst hj;rw [add_zero];exact hc0
  | 1,hj=>simp at hj;subst hj;rw [oR];exact hc1
  | j+2,hj=>simp at hj
 ·intro y hy
  simp at hy
  rcases hy with rfl | rfl
  ·exact h1
  ·exact h2
 ·intro g' cap' w' h2 h3 h4 _
  exact h g' cap' w' h2 h3 h4
end Go.Proofs.YtadhfejefpildaaGreat.Frame
namespace Go.Proofs.YtadhfejefpildaaGreat.Frame
open Go.RowKit Disk
open Crc (sum iB)
theorem mj (w:World)(C:Array Value)(L:List UInt8)(n:Nat)(hx:C.toList=BV L)(hn:L.length=n)(hl:n<=9223372036854775807):Own (w.alloc (.cells C 5)) w.heap.size (.slice (some ⟨w.heap.size,0,none⟩) n n) L:=by
 have hsz:C.size=L.length:=by rw [<-Array.length_toList,hx,eD]
 subst hn
 refine ⟨by rw [eD];omega,.inr ⟨w.heap.size,L.length,C,rfl,Nat.le_refl _,heap_alloc_new _ _,Nat.le_refl _,by unfold maxLen;omega,by omega,?_⟩⟩
 rw [<-hx,<-hsz,<-Array.length_toList,Nat.mul_one,List.take_length]
theorem sg (n:Nat)(h:n<4294967296):[Value.int .u8 ((n:Int) / 16777216),.int .u8 ((n:Int) / 65536 % 256),.int .u8 ((n:Int) / 256 % 256),.int .u8 ((n:Int) % 256)]=BV (be n):=by
 simp only [BV,be,List.map_cons,List.map_nil,UInt8.toNat_ofNat']
 congr 3
 omega
theorem si (n:Nat)(w:World)(h:n<4294967296):Calls Tryz.prog 74 #[.int .u32 n] w fun e w'=>∃u,e=.returned u/\Own w' w.heap.size u (be n)/\w.grownBy w' none:=by
 go_enter Tryz.func74,Tryz.ntmps74
 go_wp2_with fail
 go_ret
 exact ⟨_,rfl,mj _ _ _ 4 (sg n h) rfl (by omega),World.grownBy_alloc _ _ _⟩
theorem fM (k:Nat)(v:Value)(L:List UInt8)(w:World)(hk:k<256)(hs:Seg w v L)(hL:L.length<=2147483647):Calls Tryz.prog 43 #[.int .i64 k,v] w fun e w'=>∃u,e=.returned u/\Own w' w.heap.size u (frm k L)/\w.grownBy w' none:=by
 obtain ⟨ao,cap,hv⟩:=hs.shape
 subst hv
 obtain ⟨n,hn⟩:∃n,L.length=n:=⟨_,rfl⟩
 have HS:Hid (Seg w (.slice ao n cap) L):=by rw [<-hn];exact hs
 have HN:Hid _:=hn
 rw [hn] at hL ⊢
 clear hn hs
 go_enter Tryz.func43,Tryz.ntmps43
 go_wp2_with fail
 refine (si n _ (by omega)).mono ?_
 rintro e w1 ⟨u1,rfl,o1,g1⟩
 have H1:Hid (Own (w.alloc (.cells #[.int .u8 k] 5)) w.heap.size (.slice (some ⟨w.heap.size,0,none⟩) 1 1) [UInt8.ofNat k]):=mj _ _ _ 1 (by simp [BV,UInt8.toNat_ofNat'];omega) rfl (by omega)
 have H2:Hid (Own w1 w.heap.size (.slice (some ⟨w.heap.size,0,none⟩) 1 1) [UInt8.ofNat k]/\Own w1 (w.heap.size+1) u1 (be n)/\w.grownBy w1 none):=⟨H1.out.grown g1,by have:=o1;simpa using this,aa (World.grownBy_alloc _ _ _) g1⟩
 clear o1 g1 H1
 go_wp2_with (at_builtin;refine bH _ rfl _ _ rfl w.heap.size _ [UInt8.ofNat k] _ (be n) rfl rfl H2.out.1 H2.out.2.1.seg ?c0 ?c1 ?_)
 case c0=>simp [nP]
 case c1=>exact H2.out.2.2.size
 intro v2 w2 o2 g2 l2
 have H3:Hid (Own w2 w.heap.size v2 (pre5 k n)/\w.grownBy w2 none):=⟨o2,ah H2.out.2.2 g2 (by intro x hx;simp [Value.ownBlock] at hx;omega)⟩
 clear o2 g2 l2 H2
 obtain ⟨a2,c2,hv2⟩:=H3.out.1.seg.shape
 rw [fK] at hv2
 subst hv2
 go_wp2_with (at_builtin;refine bH _ rfl _ _ rfl w2.heap.size _ [] _ (pre5 k n) rfl rfl (Own.nil _ _) H3.out.1.seg ?d0 ?d1 ?_)
 case d0=>simp [fK]
 case d1=>exact Nat.le_refl _
 intro v3 w3 o3 g3 l3
 have H4:Hid (Own w3 w2.heap.size v3 (pre5 k n)/\w2.grownBy w3 none):=⟨o3,g3⟩
 clear o3 g3 l3
 go_wp2_with (at_builtin;refine bH _ rfl _ _ rfl w2.heap.size _ (pre5 k n) _ L rfl rfl H4.out.1 ((HS.out.grown H3.out.2).grown H4.out.2) ?e0 ?e1 ?_)
 case e0=>rw [HN.out,fK];omega
 case e1=>exact H4.out.2.size
 intro v4 w4 o4 g4 l4
 have H5:Hid (Own w4 w2.heap.size v4 (pre5 k n ++ L)/\w2.grownBy w4 none):=⟨o4,ah H4.out.2 g4 (by intro x hx;exact (H4.out.1.lt x hx).1)⟩
 clear o4 g4 l4 H4
 go_wp2_with fail
 refine (Crc.sum8 _ (pre5 k n ++ L) _ H5.out.1.seg).mono ?_
 rintro e w5 ⟨rfl,hw5⟩
 subst hw5
 obtain ⟨σ,hσ⟩:∃σ,sum (pre5 k n ++ L)=σ:=⟨_,rfl⟩
 have hσl:=iB (pre5 k n ++ L)
 have HE:Hid (frm k L=pre5 k n ++ be σ ++ L):=by unfold Hid frm hdr;rw [HN.out,hσ]
 rw [hσ] at hσl ⊢
 clear hσ
 go_wp2_with fail
 refine (si σ _ hσl).mono ?_
 rintro e w6 ⟨u6,rfl,o6,g6⟩
 have H6:Hid (Own w6 w.heap.size (.slice a2 5 c2) (pre5 k n)/\Own w6 w5.heap.size u6 (be σ)/\w.grownBy w6 none):=⟨(H3.out.1.grown H5.out.2).grown g6,o6,aa (aa H3.out.2 H5.out.2) g6⟩
 clear o6 g6 H3 H5
 go_wp2_with (at_builtin;refine bH _ rfl _ _ rfl w.heap.size _ (pre5 k n) _ (be σ) rfl rfl H6.out.1 H6.out.2.1.seg ?f0 ?f1 ?_)
 case f0=>simp [fK,nP]
 case f1=>exact H6.out.2.2.size
 intro v7 w7 o7 g7 l7
 have H7:Hid (Own w7 w.heap.size v7 (pre5 k n ++ be σ)/\w.grownBy w7 none):=⟨o7,ah H6.out.2.2 g7 (by intro x hx;exact (H6.out.1.lt x hx).1)⟩
 clear o7 g7 l7 H6
 go_wp2_with (at_builtin;refine bH _ rfl _ _ rfl w.heap.size _ (pre5 k n ++ be σ) _ L rfl rfl H7.out.1 (HS.out.grown H7.out.2) ?h0 ?h1 ?_)
 case h0=>rw [HN.out,List.length_append,fK,nP];omega
 case h1=>exact H7.out.2.size
 intro v8 w8 o8 g8 l8
 have H8:Hid (Own w8 w.heap.size v8 (frm k L)/\w.grownBy w8 none):=⟨by rw [HE.out];exact o8,ah H7.out.2 g8 (by intro x hx;exact (H7.out.1.lt x hx).1)⟩
 clear o8 g8 l8 H7
 go_wp2_with fail
 go_ret
 exact ⟨_,rfl,H8.out.1,H8.out.2⟩
theorem Tryz.size162:(Tryz.prog.info? 162).map (·.size)=some 9:=by kernel_rfl
theorem ml {w:World}{b t:Nat}{C:Array Value}(hb:Blk w b t C)(L:List UInt8)(n cap:Nat)(hx:C.toList.take n=BV L)(hn:L.length=n)(hc:n<=cap)(hm:cap<=9223372036854775807):Seg w (.slice (some ⟨b,0,none⟩) n cap) L:=by
 subst hn
 refine ⟨_,cap,rfl,hc,by unfold maxLen;omega,by simp,fun j hj=>⟨b,0,rfl,?_⟩⟩
 rw [hb.cell,Nat.zero_add,<-Array.getElem?_toList]
 have:=congrArg (fun X=>X[j]?) hx
 simp only [List.getElem?_take,if_pos hj] at this
 rw [this]
 simp [BV,hj]
theorem oS (k n:Nat)(hk:k<256)(h:n<4294967296):[Value.int .u8 (k:Int),.int .u8 ((n:Int) / 16777216),.int .u8 ((n:Int) / 65536 % 256),.int .u8 ((n:Int) / 256 % 256),.int .u8 ((n:Int) % 256)]=BV (pre5 k n):=by
 unfold pre5
 rw [show BV (UInt8.ofNat k :: be n)=Value.int .u8 ((UInt8.ofNat k).toNat:Int) :: BV (be n) from rfl,<-sg n h,UInt8.toNat_ofNat']
 congr 2
 omega
theorem jF (k:Nat)(v:Value)(L:List UInt8)(w:World)(hk:k<256)(hs:Seg w v L)(hL:L.length<=2147483647):Calls Tryz.prog 98 #[.int .i64 k,v] w fun e w'=>e=.returned (.agg (BV (hdr k L)).toArray)/\w.grownBy w' none:=by
 obtain ⟨ao,cap,hv⟩:=hs.shape
 subst hv
 obtain ⟨n,hn⟩:∃n,L.length=n:=⟨_,rfl⟩
 have HS:Hid (Seg w (.slice ao n cap) L):=by rw [<-hn];exact hs
 have HN:Hid _:=hn
 rw [hn] at hL ⊢
 clear hn hs
 obtain ⟨C,hC⟩:∃C,(BV (hdr k L)).toArray=C:=⟨_,rfl⟩
 have HC:Hid (C.all (·.oneCell')=true/\C.size=9/\(BV (hdr k L)).toArray=C):=by
  refine ⟨?_,?_,hC⟩
  ·rw [<-hC,List.all_toArray]
   exact List.all_eq_true.2 fun u hu=>eF _ u hu
  ·rw [<-hC]
   simp [eD,gh]
 rw [hC]
 clear hC
 go_enter Tryz.func98,Tryz.ntmps98
 go_wp2_with fail
 have HB:Hid (∀W:World,(W=((w.alloc (.cells #[.int .u8 0,.int .u8 0,.int .u8 0,.int .u8 0,.int .u8 0,.int .u8 0,.int .u8 0,.int .u8 0,.int .u8 0] 162)).alloc (.cells #[.int .u8 k,.int .u8 ((n:Int) / 16777216),.int .u8 ((n:Int) / 65536 % 256),.int .u8 ((n:Int) / 256 % 256),.int .u8 ((n:Int) % 256),.int .u8 0,.int .u8 0,.int .u8 0,.int .u8 0] 162)))->Blk W w.heap.size 162 #[.int .u8 0,.int .u8 0,.int .u8 0,.int .u8 0,.int .u8 0,.int .u8 0,.int .u8 0,.int .u8 0,.int .u8 0]/\Blk W (w.heap.size+1) 162 #[.int .u8 k,.int .u8 ((n:Int) / 16777216),.int .u8 ((n:Int) / 65536 % 256),.int .u8 ((n:Int) / 256 % 256),.int .u8 ((n:Int) % 256),.int .u8 0,.int .u8 0,.int .u8 0,.int .u8 0]/\w.grownBy W none/\W.heap.size=w.heap.size+1+1):=by
  intro W hW
  subst hW
  exact ⟨heap_alloc2_old _ _ _,heap_alloc2_new _ _ _,aa (World.grownBy_alloc _ _ _) (World.grownBy_alloc _ _ _),by simp⟩
 obtain ⟨W,hW⟩:∃W,(w.alloc (.cells #[.int .u8 0,.int .u8 0,.int .u8 0,.int .u8 0,.int .u8 0,.int .u8 0,.int .u8 0,.int .u8 0,.int .u8 0] 162)).alloc (.cells #[.int .u8 k,.int .u8 ((n:Int) / 16777216),.int .u8 ((n:Int) / 65536 % 256),.int .u8 ((n:Int) / 256 % 256),.int .u8 ((n:Int) % 256),.int .u8 0,.int .u8 0,.int .u8 0,.int .u8 0] 162)=W:=⟨_,rfl⟩
 have HW:Hid _:=HB.out W hW.symm
 rw [hW]
 clear hW HB
 have hsz:=HW.out.2.2.2
 rw [<-hsz]
 refine (Crc.sum7 _ [pre5 k n,L] _ (Crc.ch (ml HW.out.2.1 (pre5 k n) 5 9 (by rw [<-oS k n hk (by omega)];rfl) rfl (by omega) (by omega)) (HS.out.grown HW.out.2.2.1))).mono ?_
 rw [hsz]
 rintro e w3 ⟨rfl,g3⟩
 have G3:Hid (Blk w3 w.heap.size 162 #[.int .u8 0,.int .u8 0,.int .u8 0,.int .u8 0,.int .u8 0,.int .u8 0,.int .u8 0,.int .u8 0,.int .u8 0]/\Blk w3 (w.heap.size+1) 162 #[.int .u8 k,.int .u8 ((n:Int) / 16777216),.int .u8 ((n:Int) / 65536 % 256),.int .u8 ((n:Int) / 256 % 256),.int .u8 ((n:Int) % 256),.int .u8 0,.int .u8 0,.int .u8 0,.int .u8 0]/\w.grownBy w3 none):=by
  have g:=aa (World.grownBy_alloc W _ none) g3
  exact ⟨HW.out.1.grown g (by simp),HW.out.2.1.grown g (by simp),aa HW.out.2.2.1 g⟩
 clear g3 HW hsz
 obtain ⟨σ,hσ⟩:∃σ,sum (pre5 k n ++ L)=σ:=⟨_,rfl⟩
 have hσl:=iB (pre5 k n ++ L)
 have HE:Hid (hdr k L=pre5 k n ++ be σ):=by unfold Hid hdr;rw [HN.out,hσ]
 have e2:[pre5 k n,L].flatten=pre5 k n ++ L:=by simp
 rw [e2,hσ]
 rw [hσ] at hσl
 clear hσ e2
 have c5:=G3.out.2.1.cell 5
 have c6:=G3.out.2.1.cell 6
 have c7:=G3.out.2.1.cell 7
 have c8:=G3.out.2.1.cell 8
 have f5:=G3.out.2.1.free 5
 have f6:=G3.out.2.1.free 6
 have f7:=G3.out.2.1.free 7
 have f8:=G3.out.2.1.free 8
 simp at c5 c6 c7 c8
 have HB5:Hid (Blk ((((w3.setCell ⟨w.heap.size+1,5,none⟩ (.int .u8 ((σ:Int) / 16777216))).setCell ⟨w.heap.size+1,6,none⟩ (.int .u8 ((σ:Int) / 65536 % 256))).setCell ⟨w.heap.size+1,7,none⟩ (.int .u8 ((σ:Int) / 256 % 256))).setCell ⟨w.heap.size+1,8,none⟩ (.int .u8 ((σ:Int) % 256))) (w.heap.size+1) 162 (BV (hdr k L)).toArray):=by
  have h1:=(((G3.out.2.1.store 5 (.int .u8 ((σ:Int) / 16777216))).store 6 (.int .u8 ((σ:Int) / 65536 % 256))).store 7 (.int .u8 ((σ:Int) / 256 % 256))).store 8 (.int .u8 ((σ:Int) % 256))
  rw [HE.out,dr,<-oS k n hk (by omega),<-sg σ hσl]
  exact h1
 have HG5:Hid (w3.grownBy ((((w3.setCell ⟨w.heap.size+1,5,none⟩ (.int .u8 ((σ:Int) / 16777216))).setCell ⟨w.heap.size+1,6,none⟩ (.int .u8 ((σ:Int) / 65536 % 256))).setCell ⟨w.heap.size+1,7,none⟩ (.int .u8 ((σ:Int) / 256 % 256))).setCell ⟨w.heap.size+1,8,none⟩ (.int .u8 ((σ:Int) % 256))) (some (w.heap.size+1))):=aa (aa (aa (ae _ _ _ _) (ae _ _ _ _)) (ae _ _ _ _)) (ae _ _ _ _)
 have HB4:Hid (Blk ((((w3.setCell ⟨w.heap.size+1,5,none⟩ (.int .u8 ((σ:Int) / 16777216))).setCell ⟨w.heap.size+1,6,none⟩ (.int .u8 ((σ:Int) / 65536 % 256))).setCell ⟨w.heap.size+1,7,none⟩ (.int .u8 ((σ:Int) / 256 % 256))).setCell ⟨w.heap.size+1,8,none⟩ (.int .u8 ((σ:Int) % 256))) w.heap.size 162 #[.int .u8 0,.int .u8 0,.int .u8 0,.int .u8 0,.int .u8 0,.int .u8 0,.int .u8 0,.int .u8 0,.int .u8 0]):=G3.out.1.grown HG5.out (by simp)
 rw [HC.out.2.2] at HB5
 go_upto_region 5 with fail
 generalize (((w3.setCell ⟨w.heap.size+1,5,none⟩ (.int .u8 ((σ:Int) / 16777216))).setCell ⟨w.heap.size+1,6,none⟩ (.int .u8 ((σ:Int) / 65536 % 256))).setCell ⟨w.heap.size+1,7,none⟩ (.int .u8 ((σ:Int) / 256 % 256))).setCell ⟨w.heap.size+1,8,none⟩ (.int .u8 ((σ:Int) % 256))=w4 at HB5 HB4 HG5 ⊢
 clear c5 c6 c7 c8 f5 f6 f7 f8
 refine wp_region_lit ?_
 refine Crc.bG _ rfl (.tmp 6) 162 rfl (w.heap.size+1) 9 5 C Tryz.underlying162 (by rw [HC.out.2.1];exact Tryz.size162) rfl HB5.out ?_
 refine Crc.bj _ rfl rfl (.tmp 4) (.tmp 44) 162 rfl w.heap.size C _ (by rw [HC.out.2.1];exact Tryz.size162) (by rw [HC.out.2.1];rfl) HC.out.1 rfl rfl HB4.out ?_
 go_wp2_with fail
 refine bodyPost_ret (results_cell_row rfl _ _ w.heap.size 162 C (0,0) _ rfl (setRow_heap _ _ _ _ _ _ HB4.out) Tryz.underlying162 rfl (by rw [HC.out.2.1];exact Tryz.size162)) rfl ⟨rfl,?_⟩
 exact ah (ah G3.out.2.2 HG5.out (by intro x hx;simp at hx;omega)) (Crc.gT _ _ _) (by intro x hx;simp at hx;omega)
theorem nR (i a b:Nat)(h:b<2 ^ i):a*2 ^ i ||| b=a*2 ^ i+b:=by
 have:=Nat.two_pow_add_eq_or_of_lt h a
 rw [Nat.mul_comm a,<-this]
theorem tY (b1 b2 b3 b4:Nat)(h1:b1<256)(h2:b2<256)(h3:b3<256)(h4:b4<256):bits .or .u32 (bits .or .u32 (bits .or .u32 ((b1:Int)*16777216) ((b2:Int)*65536)) ((b3:Int)*256)) (b4:Int)=((b1*16777216+b2*65536+b3*256+b4:Nat):Int):=by
 have e1:bits .or .u32 ((b1:Int)*16777216) ((b2:Int)*65536)=((b1*16777216+b2*65536:Nat):Int):=by
  have:=u32_or_nat (b1*16777216) (b2*65536) (by omega) (by omega)
  rw [nR 24 b1 (b2*65536) (by omega)] at this
  exact this
 have e2:bits .or .u32 ((b1*16777216+b2*65536:Nat):Int) ((b3:Int)*256)=((b1*16777216+b2*65536+b3*256:Nat):Int):=by
  have:=u32_or_nat (b1*16777216+b2*65536) (b3*256) (by omega) (by omega)
  rw [show b1*16777216+b2*65536=(b1*256+b2)*2 ^ 16 from by omega,nR 16 _ (b3*256) (by omega)] at this
  rw [show b1*16777216+b2*65536=(b1*256+b2)*2 ^ 16 from by omega]
  exact this
 rw [e1,e2]
 have:=u32_or_nat (b1*16777216+b2*65536+b3*256) b4 (by omega) (by omega)
 rw [show b1*16777216+b2*65536+b3*256=(b1*65536+b2*256+b3)*2 ^ 8 from by omega,nR 8 _ b4 (by omega)] at this
 rw [show b1*16777216+b2*65536+b3*256=(b1*65536+b2*256+b3)*2 ^ 8 from by omega]
 exact this
theorem mm (a0 a1 a2 a3 a4 a5 a6 a7 a8:UInt8)(w:World):Calls Tryz.prog 130 #[.agg #[.int .u8 a0.toNat,.int .u8 a1.toNat,.int .u8 a2.toNat,.int .u8 a3.toNat,.int .u8 a4.toNat,.int .u8 a5.toNat,.int .u8 a6.toNat,.int .u8 a7.toNat,.int .u8 a8.toNat]] w fun e w'=>e=.returned (.int .u32 (unbe a1 a2 a3 a4:Nat))/\w.grownBy w' none:=by
 have h1:=a1.toNat_lt
 have h2:=a2.toNat_lt
 have h3:=a3.toNat_lt
 have h4:=a4.toNat_lt
 have HU:Hid (unbe a1 a2 a3 a4=a1.toNat*16777216+a2.toNat*65536+a3.toNat*256+a4.toNat):=rfl
 obtain ⟨n,hn⟩:∃n,unbe a1 a2 a3 a4=n:=⟨_,rfl⟩
 rw [hn] at HU ⊢
 clear hn
 generalize a0.toNat=b0 at *
 generalize a1.toNat=b1 at *
 generalize a2.toNat=b2 at *
 generalize a3.toNat=b3 at *
 generalize a4.toNat=b4 at *
 generalize a5.toNat=b5 at *
 generalize a6.toNat=b6 at *
 generalize a7.toNat=b7 at *
 generalize a8.toNat=b8 at *
 go_enter Tryz.func130,Tryz.ntmps130
 go_wp2_with fail
 go_ret
 refine ⟨?_,World.grownBy_alloc _ _ _⟩
 rw [HU.out,<-tY b1 b2 b3 b4 h1 h2 h3 h4]
 rfl
def kZ (L:List UInt8)(w:World)(e:Ending)(w':World):Prop :=
 ∃H bv,H.length=9/\e=.returned (.tuple #[.agg (BV H).toArray,bv,.int .i64 (spl L:Nat)])/\w.grownBy w' none/\(spl L≠0->bv=.slice none 0 0)/\(spl L=0->H=L.take 9/\Seg w' bv (aG L))
theorem gi {H:List UInt8}(h:H.length=9):∃a0 a1 a2 a3 a4 a5 a6 a7 a8,H=[a0,a1,a2,a3,a4,a5,a6,a7,a8]:=by
 match H,h with
 | [a0,a1,a2,a3,a4,a5,a6,a7,a8],_=>exact ⟨_,_,_,_,_,_,_,_,_,rfl⟩
theorem sj (n:Nat):List.replicate n (Value.int .u8 0)=BV (List.replicate n 0):=by
 induction n with
 | zero=>rfl
 | succ n ih=>rw [List.replicate_succ,List.replicate_succ,ih];rfl
theorem Tryz.size5:(Tryz.prog.info? 5).map (·.size)=some 1:=by kernel_rfl
def top9 (L:List UInt8):List UInt8:=L.take 9 ++ List.replicate (9-L.length) 0
theorem cX (L:List UInt8):(top9 L).length=9:=by unfold top9;simp;omega
theorem qe {L:List UInt8}(h:9<=L.length):top9 L=L.take 9:=by unfold top9;rw [show 9-L.length=0 from by omega];simp
theorem uD {ops:Array Oper}{rest:List Oper}{o:Oper}{a:Act}{Q:Exit->Act->World->Prop}{w:World}(hgd:o.guard=none)(d s:Operand)
  (ho:o.op=.call { callee:=.builtin .copy,args:=#[d,s],argTypes:=#[23,23] }) (g:Nat) (v:Value) (L:List UInt8) (hd:a.eval d=.slice (some ⟨g,0,none⟩) 9 9) (hs:a.eval s=v) (hv:Seg w v L)
  (hg:Blk w g 162 #[.int .u8 0,.int .u8 0,.int .u8 0,.int .u8 0,.int .u8 0,.int .u8 0,.int .u8 0,.int .u8 0,.int .u8 0]) (w0:World) (hb:w0.grownBy w none) (hlt:w0.heap.size<=g)
  (h:∀w',Hid (Blk w' g 162 (BV (top9 L)).toArray)->Hid (w0.grownBy w' none)->wpList Tryz.prog ops Q rest (a.put o.dst (.int .i64 (Nat.min L.length 9:Nat))) w'):wpList Tryz.prog ops Q (o :: rest) a w:=by
 obtain ⟨ao,cap,hv'⟩:=hv.shape
 have hs2:a.eval s=.slice ao L.length cap:=by rw [hs,hv']
 have hl:(BV (L.take 9)).length=Nat.min L.length 9:=by rw [eD,List.length_take];exact Nat.min_comm _ _
 refine wpList_copy_splice hgd d s 23 23 ho 5 Tryz.underlying23 Tryz.size5 _ _ 9 9 L.length cap hd hs2 g 0 [.int .u8 0,.int .u8 0,.int .u8 0,.int .u8 0,.int .u8 0,.int .u8 0,.int .u8 0,.int .u8 0,.int .u8 0] 162 hg (BV (L.take 9)) hl ?_ ?_ (eF _) w0.heap.size w0 (em hb) hlt ?_
 ·intro hpos
  refine ⟨rfl,?_⟩
  rw [hv'] at hv
  have hsg:=bB (Nat.min L.length 9) (Nat.min_le_left _ _) hv
  have e9:L.take (Nat.min L.length 9)=L.take 9:=by
   by_cases h9:9<=L.length
   ·rw [show Nat.min L.length 9=9 from Nat.min_eq_right h9]
   ·rw [show Nat.min L.length 9=L.length from Nat.min_eq_left (by omega),List.take_length,List.take_of_length_le (by omega)]
  rw [e9] at hsg
  cases ao with
  | none =>
   obtain ⟨ao',cap',hvv,h1,h2,h3,h4⟩:=hsg
   simp at hvv
   have:=h3 hvv.1.symm
   rw [eD] at hpos
   omega
  | some ad=>exact ⟨ad,rfl,(dE hsg).2⟩
 ·rw [hl]
  have:=Nat.min_le_right L.length 9
  simp
  omega
 ·intro w' hG hB
  rw [hl]
  refine h w' ?_ ⟨hB.os,hB.tape,hB.output,hB.size,fun k hk _=>hB.block k hk⟩
  unfold Hid
  have e:splice [Value.int .u8 0,.int .u8 0,.int .u8 0,.int .u8 0,.int .u8 0,.int .u8 0,.int .u8 0,.int .u8 0,.int .u8 0] 0 (BV (L.take 9))=BV (top9 L):=by
   unfold splice top9
   rw [dr,hl,<-sj]
   simp only [List.take_zero,List.nil_append,Nat.zero_add]
   congr 1
   show (List.replicate 9 (Value.int .u8 0)).drop _=_
   rw [List.drop_replicate]
   congr 1
   have e:Nat.min L.length 9=min L.length 9:=rfl
   rw [e]
   omega
  rw [<-e]
  exact hG.out
theorem gH {w:World}{g:Nat}{C:Array Value}(hg:Blk w g 162 C)(hi:(Tryz.prog.info? 162).map (·.size)=some C.size):(loadVar 162 ⟨g,0,none⟩).run Tryz.prog w=.ok (.agg C) w:=run_loadVar_row w g 162 162 C (0,0) _ hg Tryz.underlying162 rfl hi
theorem eH {w:World}{g:Nat}{x y:Value}(hg:Blk w g 109 #[x,y]):(loadVar 109 ⟨g,0,none⟩).run Tryz.prog w=.ok (.agg #[x,y]) w:=run_loadVar_row w g 109 109 #[x,y] (0,0) _ hg Tryz.underlying109 rfl (by kernel_rfl)
theorem ew {fn:Func}{p u x:Tmp}{ty:TypeId}(h:fn.results=#[.cell p ty,.tmp u,.tmp x]){tmps:Array Value}{w:World}{g:Nat}{C a b:Value}(hl:(loadVar ty ⟨g,0,none⟩).run Tryz.prog w=.ok C w)(hp:tmps.getD p undef=.pointer (some ⟨g,0,none⟩))(ha:tmps.getD u undef=a)(hb:tmps.getD x undef=b) :
  (results fn tmps).run Tryz.prog w=.ok (.tuple #[C,a,b]) w:=by
 simp only [Array.getD_eq_getD_getElem?] at hp ha hb
 simp only [results,h]
 simp [Result.andThen,hp,ha,hb,asAddr,hl]
theorem sl {fn:Func}{p u:Tmp}{ty:TypeId}(h:fn.results=#[.cell p ty,.tmp u]){tmps:Array Value}{w:World}{g:Nat}{C a:Value}(hl:(loadVar ty ⟨g,0,none⟩).run Tryz.prog w=.ok C w)(hp:tmps.getD p undef=.pointer (some ⟨g,0,none⟩))(ha:tmps.getD u undef=a) :
  (results fn tmps).run Tryz.prog w=.ok (.tuple #[C,a]) w:=by
 simp only [Array.getD_eq_getD_getElem?] at hp ha
 simp only [results,h]
 simp [Result.andThen,hp,ha,asAddr,hl]
theorem k_ (L:List UInt8):(BV L).toArray.all (·.oneCell')=true:=by
 rw [List.all_toArray]
 exact List.all_eq_true.2 fun u hu=>eF _ u hu
theorem gj {L:List UInt8}(h:L.length=9):(Tryz.prog.info? 162).map (·.size)=some (BV L).toArray.size:=by
 rw [show (BV L).toArray.size=9 from by simp [eD,h]]
 exact Tryz.size162
theorem mn (v:Value)(L:List UInt8)(w:World)(hs:Seg w v L)(hL:L.length<9):Calls Tryz.prog 110 #[v] w (kZ L w):=by
 obtain ⟨ao,cap,hv⟩:=hs.shape
 subst hv
 obtain ⟨n,hn⟩:∃n,L.length=n:=⟨_,rfl⟩
 have HS:Hid (Seg w (.slice ao n cap) L):=by rw [<-hn];exact hs
 have HN:Hid _:=hn
 rw [hn] at hL ⊢
 clear hn hs
 have HZ:Hid _:=gj (cX L)
 obtain ⟨C,hC⟩:∃C,(BV (top9 L)).toArray=C:=⟨_,rfl⟩
 have HA:Hid _:=k_ (top9 L)
 have HC:Hid _:=hC
 rw [hC] at HZ HA
 clear hC
 go_enter Tryz.func110,Tryz.ntmps110
 go_wp2_with (refine uD rfl (.tmp 7) (.tmp 8) rfl w.heap.size _ L rfl rfl (HS.out.grown (World.grownBy_alloc _ _ _)) (heap_alloc_new _ _) w (World.grownBy_alloc _ _ _) (Nat.le_refl _) ?_)
 intro w2 HB HG
 rw [HC.out] at HB
 rw [HN.out,show Nat.min n 9=n from Nat.min_eq_left (by omega)]
 have hi:(n:Int)<9:=by omega
 go_wp2_with (first | (refine Crc.bG _ rfl (.tmp 2) 162 rfl w.heap.size 9 5 C Tryz.underlying162 HZ.out rfl HB.out ?_) | (refine Crc.bj _ rfl rfl (.tmp 2) (.tmp 11) 162 rfl w.heap.size C C HZ.out rfl HA.out rfl rfl HB.out ?_;rw [setRow_self _ _ _ _ _ HB.out]))
 refine bodyPost_ret (ew rfl (gH HB.out HZ.out) rfl rfl rfl) rfl ?_
 have e:spl L=140:=by unfold spl;rw [HN.out,if_pos (by omega)]
 refine ⟨top9 L,_,cX L,?_,HG.out,fun _=>rfl,fun h=>absurd h (by omega)⟩
 rw [e,HC.out]
 rfl
theorem h_ {o:Oper}{a:Act}{w:World}{K:Act->World->Prop}{Q:Exit->Act->World->Prop}(hds:o.dst=none)(p x:Operand)(ho:o.op=.store 162 p x)(g:Nat)(C:Array Value)(hi:(Tryz.prog.info? 162).map (·.size)=some C.size)(h1:C.all (·.oneCell')=true)(hp:a.eval p=.pointer (some ⟨g,0,none⟩))(hx:a.eval x=.agg C)(hg:Blk w g 162 C)(h:K a w):o.wp Tryz.prog a w K Q:=by
 have hrun:(Instr.storeAt 162 (.pointer (some ⟨g,0,none⟩)) (.agg C)).run Tryz.prog w=.ok () w:=by
  simp only [Instr.storeAt,Instr.sureAddr,Sem.run_bind,Sem.run_pure,Result.andThen]
  have:=run_storeVar_row w g 162 162 C C hg hi rfl h1
  rw [setRow_self _ _ _ _ _ hg] at this
  exact this
 unfold Oper.wp
 simp [execOp,ho,hp,hx,hrun,Result.andThen]
 rw [Oper.upon_skip,hds]
 exact h
theorem lh (v:Value)(L:List UInt8)(w:World)(hs:Seg w v L)(hL:9<=L.length):Calls Tryz.prog 110 #[v] w (kZ L w):=by
 obtain ⟨ao,cap,hv⟩:=hs.shape
 subst hv
 obtain ⟨n,hn⟩:∃n,L.length=n:=⟨_,rfl⟩
 have HS:Hid (Seg w (.slice ao n cap) L):=by rw [<-hn];exact hs
 have HN:Hid _:=hn
 have hcap:n<=cap/\cap<=9223372036854775807/\∃b off,ao=some ⟨b,off,none⟩:=by
  obtain ⟨ao',cap',hv,h1,h2,h3,h4⟩:=hs
  simp at hv
  obtain ⟨rfl,rfl⟩:=hv
  obtain ⟨b,off,e,_⟩:=h4 0 (by omega)
  unfold maxLen at h2
  exact ⟨by omega,by omega,b,off,e⟩
 obtain ⟨hcap,hcap2,b,off,rfl⟩:=hcap
 rw [hn] at hL ⊢
 clear hn hs
 have ht9:top9 L=L.take 9:=qe (by rw [HN.out];exact hL)
 have HT:Hid _:=ht9
 clear ht9
 obtain ⟨a0,a1,a2,a3,a4,a5,a6,a7,a8,hH⟩:=gi (cX L)
 have HM:Hid (unbe a1 a2 a3 a4=ba L):=by
  unfold Hid ba
  have e:∀i,i<9->L.getD i 0=(L.take 9).getD i 0:=fun i hi=>by
   rw [List.getD_eq_getElem?_getD,List.getD_eq_getElem?_getD,List.getElem?_take,if_pos hi]
  rw [e 1 (by omega),e 2 (by omega),e 3 (by omega),e 4 (by omega),<-HT.out,hH]
  rfl
 have HH:Hid _:=hH
 clear hH
 obtain ⟨m,hm⟩:∃m,ba L=m:=⟨_,rfl⟩
 have hmlt:=rZ L
 rw [hm] at HM hmlt
 have HLM:Hid _:=hm
 clear hm
 have HZ:Hid _:=gj (cX L)
 obtain ⟨C,hC⟩:∃C,(BV (top9 L)).toArray=C:=⟨_,rfl⟩
 have HA:Hid _:=k_ (top9 L)
 have HC:Hid _:=hC
 rw [hC] at HZ HA
 clear hC
 have h9:¬((9:Int)<9):=by omega
 go_enter Tryz.func110,Tryz.ntmps110
 go_wp2_with (refine uD rfl (.tmp 7) (.tmp 8) rfl w.heap.size _ L rfl rfl (HS.out.grown (World.grownBy_alloc _ _ _)) (heap_alloc_new _ _) w (World.grownBy_alloc _ _ _) (Nat.le_refl _) ?_)
 intro w2 HB HG
 rw [HC.out] at HB
 rw [HN.out,show Nat.min n 9=9 from Nat.min_eq_right (by omega)]
 go_wp2_with fail
 have HQ:Hid (∀x:World,w2.grownBy x none->x.cell? ⟨w.heap.size,0,none⟩=some (.int .u8 a0.toNat)/\x.cell? ⟨w.heap.size,1,none⟩=some (.int .u8 a1.toNat)/\x.cell? ⟨w.heap.size,2,none⟩=some (.int .u8 a2.toNat)/\x.cell? ⟨w.heap.size,3,none⟩=some (.int .u8 a3.toNat)/\x.cell? ⟨w.heap.size,4,none⟩=some (.int .u8 a4.toNat)/\x.cell? ⟨w.heap.size,5,none⟩=some (.int .u8 a5.toNat)/\x.cell? ⟨w.heap.size,6,none⟩=some (.int .u8 a6.toNat)/\x.cell? ⟨w.heap.size,7,none⟩=some (.int .u8 a7.toNat)/\x.cell? ⟨w.heap.size,8,none⟩=some (.int .u8 a8.toNat)):=fun x hx=>by
  have hb:=HB.out.grown hx (by simp)
  rw [<-HC.out,HH.out] at hb
  exact ⟨hb.cell 0,hb.cell 1,hb.cell 2,hb.cell 3,hb.cell 4,hb.cell 5,hb.cell 6,hb.cell 7,hb.cell 8⟩
 by_cases hc9:cap=9
 ·have hn9:n=9:=by omega
  subst hc9
  subst hn9
  refine wp_region_noPanic ?_
  refine am 1000 (fun x=>w2.grownBy x none) (by kernel_rfl) ?_
  have J:Idx [0,2,3]:=trivial
  iterate 3 (refine tK J (af _ _) rfl rfl (fun wk hk=>by obtain ⟨k0,k1,k2,k3,k4,k5,k6,k7,k8⟩:=HQ.out wk hk;go_simp;try rfl) ?_;replace J:=J.tl;try simp only [pN])
  refine wO 1 rfl fun K hK=>?_
  go_simp
  refine (mm a0 a1 a2 a3 a4 a5 a6 a7 a8 _).mono ?_
  rintro e w3 ⟨rfl,g3⟩
  have G3:Hid (w2.grownBy w3 none):=aa (af _ _) g3
  clear g3
  rw [HM.out]
  go_wp2_with fail
  refine hK.out _ _ (fun _=>G3.out) ?_
  clear hK K
  try simp only [pN]
  have J:Idx [4,5]:=trivial
  iterate 2 (refine tK J (G3.out) rfl rfl (fun wk hk=>by obtain ⟨k0,k1,k2,k3,k4,k5,k6,k7,k8⟩:=HQ.out wk hk;go_simp;try rfl) ?_;replace J:=J.tl;try simp only [pN])
  refine wD ?_
  refine (‹∀(a:Act) (w:World),Code.wp Tryz.prog _ _ a w->_› _ _ ?_)
  have HB3:Hid (Blk w3 w.heap.size 162 C):=HB.out.grown G3.out (by simp)
  have HG3:Hid (w.grownBy w3 none):=aa HG.out G3.out
  have HR:Hid (Seg w3 (.slice (some ⟨b,off,none⟩) 0 0) (L.drop 9)):=by
   have:=bk 9 (by rw [HN.out];omega) rfl (by rw [HN.out];exact HS.out:Seg w (.slice (some ⟨b,off,none⟩) L.length 9) L);rw [HN.out] at this
   exact this.grown HG3.out
  by_cases hm1:2147483647<m
  ·have hmi:(2147483647:Int)<(m:Int):=by omega
   have HE:Hid (spl L=141):=by unfold Hid spl;rw [HN.out,HLM.out,if_neg (by omega),if_pos hm1]
   go_wp2_with (first | (refine Crc.bG _ rfl (.tmp 2) 162 rfl w.heap.size 9 5 C Tryz.underlying162 HZ.out rfl HB3.out ?_) | (refine Crc.bj _ rfl rfl (.tmp 2) (.tmp 18) 162 rfl w.heap.size C C HZ.out rfl HA.out rfl rfl HB3.out ?_;rw [setRow_self _ _ _ _ _ HB3.out]))
   refine bodyPost_ret (ew rfl (gH HB3.out HZ.out) rfl rfl rfl) rfl ?_
   refine ⟨top9 L,_,cX L,?_,HG3.out,fun _=>rfl,fun h=>absurd h (by rw [HE.out];decide)⟩
   rw [HE.out,HC.out]
   rfl
  ·have hmi:¬(2147483647:Int)<(m:Int):=by omega
   by_cases hm2:0<m
   ·have hmj:((0:Nat):Int)<(m:Int):=by omega
    have HE:Hid (spl L=140):=by unfold Hid spl;rw [HN.out,HLM.out,if_neg (by omega),if_neg hm1,if_pos (by omega)]
    go_wp2_with (first | (refine Crc.bG _ rfl (.tmp 2) 162 rfl w.heap.size 9 5 C Tryz.underlying162 HZ.out rfl HB3.out ?_) | (refine Crc.bj _ rfl rfl (.tmp 2) (.tmp 24) 162 rfl w.heap.size C C HZ.out rfl HA.out rfl rfl HB3.out ?_;rw [setRow_self _ _ _ _ _ HB3.out]))
    refine bodyPost_ret (ew rfl (gH HB3.out HZ.out) rfl rfl rfl) rfl ?_
    refine ⟨top9 L,_,cX L,?_,HG3.out,fun _=>rfl,fun h=>absurd h (by rw [HE.out];decide)⟩
    rw [HE.out,HC.out]
    rfl
   ·have hmj:¬((0:Nat):Int)<(m:Int):=by omega
    have HE:Hid (spl L=0):=by unfold Hid spl;rw [HN.out,HLM.out,if_neg (by omega),if_neg hm1,if_neg (by omega)]
    obtain rfl:m=0:=by omega
    go_wp2_with fail
    have HB4:Hid (Blk w3 w.heap.size 162 (BV [a0,a1,a2,a3,a4,a5,a6,a7,a8]).toArray):=by
     have:=HB3.out
     rw [<-HC.out,HH.out] at this
     exact this
    refine wp_region_noPanic ?_
    refine am 1000 (fun x=>w3.grownBy x none) (by kernel_rfl) ?_
    have J:Idx [0,1,2,3]:=trivial
    iterate 4 (refine tK J (af _ _) rfl rfl (fun wk hk=>by obtain ⟨k0,k1,k2,k3,k4,k5,k6,k7,k8⟩:=HQ.out wk (aa G3.out hk);go_simp;try rfl) ?_;replace J:=J.tl;try simp only [pN])
    refine wO 4 rfl fun K hK=>?_
    refine h_ rfl (.tmp 2) (.tmp 25) rfl w.heap.size (BV [a0,a1,a2,a3,a4,a5,a6,a7,a8]).toArray (gj rfl) (k_ _) rfl rfl (HB4.out.grown (af _ none) (by simp)) ?_
    refine hK.out _ _ (fun _=>af _ _) ?_
    clear hK K
    try simp only [pN]
    have J:Idx [5,6]:=trivial
    iterate 2 (refine tK J (af _ _) rfl rfl (fun wk hk=>by obtain ⟨k0,k1,k2,k3,k4,k5,k6,k7,k8⟩:=HQ.out wk (aa G3.out hk);go_simp;try rfl) ?_;replace J:=J.tl;try simp only [pN])
    refine wD ?_
    refine (‹∀(a:Act) (w:World),Code.wp Tryz.prog _ _ a w->_› _ _ ?_)
    go_wp2_with fail
    refine bodyPost_ret (ew rfl (gH (HB4.out.grown (af _ none) (by simp)) (gj rfl)) rfl rfl rfl) rfl ?_
    refine ⟨top9 L,.slice (some ⟨b,off,none⟩) 0 0,cX L,?_,aa HG3.out (af _ _),fun h=>absurd HE.out h,fun _=>⟨HT.out,?_⟩⟩
    ·rw [HE.out,HH.out]
     rfl
    ·have hr:=HR.out.grown (af w3 none)
     unfold aG
     rw [HLM.out]
     have hl:(L.drop 9).length=0:=by rw [List.length_drop,HN.out]
     exact bB 0 (by rw [hl];omega) (by rw [hl];exact hr)
 ·have hcl:9<cap:=by omega
  have hcn:¬cap=9:=hc9
  have hLi:(9:Int)<=(n:Int):=by omega
  refine wp_region_noPanic ?_
  refine am 1000 (fun x=>w2.grownBy x none) (by kernel_rfl) ?_
  have J:Idx [0,2,3]:=trivial
  iterate 3 (refine tK J (af _ _) rfl rfl (fun wk hk=>by obtain ⟨k0,k1,k2,k3,k4,k5,k6,k7,k8⟩:=HQ.out wk hk;go_simp;try rfl) ?_;replace J:=J.tl;try simp only [pN])
  refine wO 1 rfl fun K hK=>?_
  go_simp
  refine (mm a0 a1 a2 a3 a4 a5 a6 a7 a8 _).mono ?_
  rintro e w3 ⟨rfl,g3⟩
  have G3:Hid (w2.grownBy w3 none):=aa (af _ _) g3
  clear g3
  rw [HM.out]
  go_wp2_with fail
  refine hK.out _ _ (fun _=>G3.out) ?_
  clear hK K
  try simp only [pN]
  have J:Idx [4,5]:=trivial
  iterate 2 (refine tK J (G3.out) rfl rfl (fun wk hk=>by obtain ⟨k0,k1,k2,k3,k4,k5,k6,k7,k8⟩:=HQ.out wk hk;go_simp;try rfl) ?_;replace J:=J.tl;try simp only [pN])
  refine wD ?_
  refine (‹∀(a:Act) (w:World),Code.wp Tryz.prog _ _ a w->_› _ _ ?_)
  have HB3:Hid (Blk w3 w.heap.size 162 C):=HB.out.grown G3.out (by simp)
  have HG3:Hid (w.grownBy w3 none):=aa HG.out G3.out
  have HR:Hid (Seg w3 (.slice (some ⟨b,off+9,none⟩) (n-9) (cap-9)) (L.drop 9)):=by
   have:=bC 9 (by rw [HN.out];omega) (by rw [HN.out];exact HS.out:Seg w (.slice (some ⟨b,off,none⟩) L.length cap) L);rw [HN.out] at this
   exact this.grown HG3.out
  by_cases hm1:2147483647<m
  ·have hmi:(2147483647:Int)<(m:Int):=by omega
   have HE:Hid (spl L=141):=by unfold Hid spl;rw [HN.out,HLM.out,if_neg (by omega),if_pos hm1]
   go_wp2_with (first | (refine Crc.bG _ rfl (.tmp 2) 162 rfl w.heap.size 9 5 C Tryz.underlying162 HZ.out rfl HB3.out ?_) | (refine Crc.bj _ rfl rfl (.tmp 2) (.tmp 18) 162 rfl w.heap.size C C HZ.out rfl HA.out rfl rfl HB3.out ?_;rw [setRow_self _ _ _ _ _ HB3.out]))
   refine bodyPost_ret (ew rfl (gH HB3.out HZ.out) rfl rfl rfl) rfl ?_
   refine ⟨top9 L,_,cX L,?_,HG3.out,fun _=>rfl,fun h=>absurd h (by rw [HE.out];decide)⟩
   rw [HE.out,HC.out]
   rfl
  ·have hmi:¬(2147483647:Int)<(m:Int):=by omega
   by_cases hm2:n-9<m
   ·have hmj:((n-9:Nat):Int)<(m:Int):=by omega
    have HE:Hid (spl L=140):=by unfold Hid spl;rw [HN.out,HLM.out,if_neg (by omega),if_neg hm1,if_pos (by omega)]
    go_wp2_with (first | (refine Crc.bG _ rfl (.tmp 2) 162 rfl w.heap.size 9 5 C Tryz.underlying162 HZ.out rfl HB3.out ?_) | (refine Crc.bj _ rfl rfl (.tmp 2) (.tmp 24) 162 rfl w.heap.size C C HZ.out rfl HA.out rfl rfl HB3.out ?_;rw [setRow_self _ _ _ _ _ HB3.out]))
    refine bodyPost_ret (ew rfl (gH HB3.out HZ.out) rfl rfl rfl) rfl ?_
    refine ⟨top9 L,_,cX L,?_,HG3.out,fun _=>rfl,fun h=>absurd h (by rw [HE.out];decide)⟩
    rw [HE.out,HC.out]
    rfl
   ·have hmj:¬((n-9:Nat):Int)<(m:Int):=by omega
    have hmc:m<=cap-9:=by omega
    have HE:Hid (spl L=0):=by unfold Hid spl;rw [HN.out,HLM.out,if_neg (by omega),if_neg hm1,if_neg (by omega)]
    go_wp2_with fail
    have HB4:Hid (Blk w3 w.heap.size 162 (BV [a0,a1,a2,a3,a4,a5,a6,a7,a8]).toArray):=by
     have:=HB3.out
     rw [<-HC.out,HH.out] at this
     exact this
    refine wp_region_noPanic ?_
    refine am 1000 (fun x=>w3.grownBy x none) (by kernel_rfl) ?_
    have J:Idx [0,1,2,3]:=trivial
    iterate 4 (refine tK J (af _ _) rfl rfl (fun wk hk=>by obtain ⟨k0,k1,k2,k3,k4,k5,k6,k7,k8⟩:=HQ.out wk (aa G3.out hk);go_simp;try rfl) ?_;replace J:=J.tl;try simp only [pN])
    refine wO 4 rfl fun K hK=>?_
    refine h_ rfl (.tmp 2) (.tmp 25) rfl w.heap.size (BV [a0,a1,a2,a3,a4,a5,a6,a7,a8]).toArray (gj rfl) (k_ _) rfl rfl (HB4.out.grown (af _ none) (by simp)) ?_
    refine hK.out _ _ (fun _=>af _ _) ?_
    clear hK K
    try simp only [pN]
    have J:Idx [5,6]:=trivial
    iterate 2 (refine tK J (af _ _) rfl rfl (fun wk hk=>by obtain ⟨k0,k1,k2,k3,k4,k5,k6,k7,k8⟩:=HQ.out wk (aa G3.out hk);go_simp;try rfl) ?_;replace J:=J.tl;try simp only [pN])
    refine wD ?_
    refine (‹∀(a:Act) (w:World),Code.wp Tryz.prog _ _ a w->_› _ _ ?_)
    go_wp2_with fail
    refine bodyPost_ret (ew rfl (gH (HB4.out.grown (af _ none) (by simp)) (gj rfl)) rfl rfl rfl) rfl ?_
    refine ⟨top9 L,.slice (some ⟨b,off+9,none⟩) m (cap-9),cX L,?_,aa HG3.out (af _ _),fun h=>absurd HE.out h,fun _=>⟨HT.out,?_⟩⟩
    ·rw [HE.out,HH.out]
     rfl
    ·have hr:=HR.out.grown (af w3 none)
     unfold aG
     rw [HLM.out]
     have hl:(L.drop 9).length=n-9:=by rw [List.length_drop,HN.out]
     exact bB m (by rw [hl];omega) (by rw [hl];exact hr)
theorem oT (v:Value)(L:List UInt8)(w:World)(hs:Seg w v L):Calls Tryz.prog 110 #[v] w (kZ L w):=by
 by_cases h:L.length<9
 ·exact mn v L w hs h
 ·exact lh v L w hs (by omega)
end Go.Proofs.YtadhfejefpildaaGreat.Frame
namespace Go.Proofs.YtadhfejefpildaaGreat.Frame
open Go.RowKit Disk
theorem eq54 (a0 a1 a2 a3 a4 a5 a6 a7 a8 b0 b1 b2 b3 b4 b5 b6 b7 b8:Int)(w:World):(Op.equalIn 10000 162 (.agg #[.int .u8 a0,.int .u8 a1,.int .u8 a2,.int .u8 a3,.int .u8 a4,.int .u8 a5,.int .u8 a6,.int .u8 a7,.int .u8 a8]) (.agg #[.int .u8 b0,.int .u8 b1,.int .u8 b2,.int .u8 b3,.int .u8 b4,.int .u8 b5,.int .u8 b6,.int .u8 b7,.int .u8 b8])).run Tryz.prog w=.ok (a0==b0 && (a1==b1 && (a2==b2 && (a3==b3 && (a4==b4 && (a5==b5 && (a6==b6 && (a7==b7 && a8==b8)))))))) w:=by
 have u5:=Tryz.underlying5
 have a5':=Tryz.isAgg5
 have z5:=Tryz.sizeOf5
 rw [show (10000:Nat)=9999+1 from rfl,Op.equalIn]
 simp only [Sem.run_bind,run_underlying Tryz.underlying162,Result.andThen_ok]
 simp only [Std.Legacy.Range.forIn_eq_forIn_range',Std.Legacy.Range.size,Nat.sub_zero,Nat.add_sub_cancel,Nat.div_one,List.range'_succ,List.range'_zero,List.forIn_cons,List.forIn_nil]
 go_simp
 repeat' split
 all_goals simp_all
theorem wv {H G:List UInt8}(hH:H.length=9)(hG:G.length=9)(w:World):(binOp .neq 162 (.agg (BV H).toArray) (.agg (BV G).toArray)).run Tryz.prog w=.ok (.bool (decide (H≠G))) w:=by
 obtain ⟨a0,a1,a2,a3,a4,a5,a6,a7,a8,rfl⟩:=gi hH
 obtain ⟨b0,b1,b2,b3,b4,b5,b6,b7,b8,rfl⟩:=gi hG
 rw [run_neq_struct]
 simp only [BV,List.map_cons,List.map_nil]
 rw [eq54]
 simp only [Result.andThen]
 congr 2
 rw [Bool.eq_iff_iff]
 simp [<-UInt8.toNat_inj]
 omega
end Go.Proofs.YtadhfejefpildaaGreat.Frame
namespace Go.Proofs.YtadhfejefpildaaGreat.Frame
open Go.RowKit Disk
open Crc (sum iB)
def tZ (L:List UInt8)(w:World)(e:Ending)(w':World):Prop :=
 w.grownBy w' none/\(code L≠0->e=.returned (.tuple #[.agg #[.int .i64 0,.slice none 0 0],.int .i64 (code L:Nat)]))/\(code L=0->∃u,e=.returned (.tuple #[.agg #[.int .i64 (aW L:Nat),u],.int .i64 0])/\Own w' w.heap.size u (aG L))
theorem ck {w0 w:World}{g:Nat}(u v:Value)(h:w0.grownBy w none)(hg:w0.heap.size<=g):w0.grownBy ((w.setCell ⟨g,0,none⟩ u).setCell ⟨g,1,none⟩ v) none :=
 ah (ah h (ae w g 0 u) (by intro x hx;simp at hx;omega)) (ae _ g 1 v) (by intro x hx;simp at hx;omega)
theorem b_ {w:World}{g t:Nat}{x y:Value}(u v:Value)(hg:Blk w g t #[x,y]):Blk ((w.setCell ⟨g,0,none⟩ u).setCell ⟨g,1,none⟩ v) g t #[u,v]:=by
 have h2:=(hg.store 0 u).store 1 v
 simpa using h2
theorem i7 (a0 a1 a2 a3 a4 a5 a6 a7 a8:UInt8):(BV [a0,a1,a2,a3,a4,a5,a6,a7,a8]).toArray=#[.int .u8 a0.toNat,.int .u8 a1.toNat,.int .u8 a2.toNat,.int .u8 a3.toNat,.int .u8 a4.toNat,.int .u8 a5.toNat,.int .u8 a6.toNat,.int .u8 a7.toNat,.int .u8 a8.toNat]:=rfl
theorem i8 (v:Value)(L:List UInt8)(w:World)(hs:Seg w v L):Calls Tryz.prog 109 #[v] w (tZ L w):=by
 obtain ⟨ao,cap,hv⟩:=hs.shape
 subst hv
 obtain ⟨n,hn⟩:∃n,L.length=n:=⟨_,rfl⟩
 have HS:Hid (Seg w (.slice ao n cap) L):=by rw [<-hn];exact hs
 rw [hn]
 clear hn hs
 go_enter Tryz.func109,Tryz.ntmps109
 go_wp2_with fail
 refine (oT _ L _ (HS.out.grown (World.grownBy_alloc _ _ _))).mono ?_
 rintro e w1 ⟨H,bv,hH,rfl,g1,hbad,hok⟩
 have G1:Hid (w.grownBy w1 none/\Blk w1 w.heap.size 109 #[.int .i64 0,.slice none 0 0]):=⟨aa (World.grownBy_alloc _ _ _) g1,Blk.grown (heap_alloc_new _ _) g1 (by simp)⟩
 have hwl:w.heap.size+1<=w1.heap.size:=by have:=g1.size;simpa using this
 clear g1 HS
 by_cases hsp:spl L=0
 ·obtain ⟨hT,hSb⟩:=hok hsp
  have hbl:=cj hsp
  obtain ⟨a0,a1,a2,a3,a4,a5,a6,a7,a8,hH9⟩:=gi hH
  have HK:Hid (aW L=a0.toNat):=by
   unfold Hid aW
   have e:L.getD 0 0=(L.take 9).getD 0 0:=by
    rw [List.getD_eq_getElem?_getD,List.getD_eq_getElem?_getD,List.getElem?_take,if_pos (by omega)]
   rw [e,<-hT,hH9]
   rfl
  have HT:Hid (L.take 9=[a0,a1,a2,a3,a4,a5,a6,a7,a8]):=by unfold Hid;rw [<-hT,hH9]
  have HSb:Hid (Seg w1 bv (aG L)):=hSb
  obtain ⟨ab,cb,hbv⟩:=hSb.shape
  rw [hbl.1] at hbv
  subst hbv
  rw [hsp,hH9,i7]
  have ha0:=a0.toNat_lt
  have HL:Hid ((aG L).length=ba L/\ba L<=2147483647):=⟨hbl.1,hbl.2.2⟩
  have HSP:Hid (spl L=0):=hsp
  obtain ⟨m,hm⟩:∃m,ba L=m:=⟨_,rfl⟩
  rw [hm] at HSb HL ⊢
  clear hT hSb hbl hH hbad hok hsp hm hH9
  go_wp2_with fail
  have GW:Hid (w.grownBy (w1.alloc (.cells #[.int .u8 a0.toNat,.int .u8 a1.toNat,.int .u8 a2.toNat,.int .u8 a3.toNat,.int .u8 a4.toNat,.int .u8 a5.toNat,.int .u8 a6.toNat,.int .u8 a7.toNat,.int .u8 a8.toNat] 162)) none/\Blk (w1.alloc (.cells #[.int .u8 a0.toNat,.int .u8 a1.toNat,.int .u8 a2.toNat,.int .u8 a3.toNat,.int .u8 a4.toNat,.int .u8 a5.toNat,.int .u8 a6.toNat,.int .u8 a7.toNat,.int .u8 a8.toNat] 162)) w.heap.size 109 #[.int .i64 0,.slice none 0 0]/\Blk (w1.alloc (.cells #[.int .u8 a0.toNat,.int .u8 a1.toNat,.int .u8 a2.toNat,.int .u8 a3.toNat,.int .u8 a4.toNat,.int .u8 a5.toNat,.int .u8 a6.toNat,.int .u8 a7.toNat,.int .u8 a8.toNat] 162)) w1.heap.size 162 #[.int .u8 a0.toNat,.int .u8 a1.toNat,.int .u8 a2.toNat,.int .u8 a3.toNat,.int .u8 a4.toNat,.int .u8 a5.toNat,.int .u8 a6.toNat,.int .u8 a7.toNat,.int .u8 a8.toNat]/\Seg (w1.alloc (.cells #[.int .u8 a0.toNat,.int .u8 a1.toNat,.int .u8 a2.toNat,.int .u8 a3.toNat,.int .u8 a4.toNat,.int .u8 a5.toNat,.int .u8 a6.toNat,.int .u8 a7.toNat,.int .u8 a8.toNat] 162)) (.slice ab m cb) (aG L)):=⟨aa G1.out.1 (World.grownBy_alloc _ _ _),Blk.grown G1.out.2 gA_ (by simp),heap_alloc_new _ _,HSb.out.grown (World.grownBy_alloc _ _ _)⟩
  generalize w1.alloc (.cells #[.int .u8 a0.toNat,.int .u8 a1.toNat,.int .u8 a2.toNat,.int .u8 a3.toNat,.int .u8 a4.toNat,.int .u8 a5.toNat,.int .u8 a6.toNat,.int .u8 a7.toNat,.int .u8 a8.toNat] 162)=w2 at GW ⊢
  have HQ:Hid (∀x:World,w2.grownBy x none->x.cell? ⟨w1.heap.size,0,none⟩=some (.int .u8 a0.toNat)/\x.cell? ⟨w1.heap.size,1,none⟩=some (.int .u8 a1.toNat)/\x.cell? ⟨w1.heap.size,2,none⟩=some (.int .u8 a2.toNat)/\x.cell? ⟨w1.heap.size,3,none⟩=some (.int .u8 a3.toNat)/\x.cell? ⟨w1.heap.size,4,none⟩=some (.int .u8 a4.toNat)/\x.cell? ⟨w1.heap.size,5,none⟩=some (.int .u8 a5.toNat)/\x.cell? ⟨w1.heap.size,6,none⟩=some (.int .u8 a6.toNat)/\x.cell? ⟨w1.heap.size,7,none⟩=some (.int .u8 a7.toNat)/\x.cell? ⟨w1.heap.size,8,none⟩=some (.int .u8 a8.toNat)):=fun x hx=>by
   have hb:=GW.out.2.2.1.grown hx (by simp)
   exact ⟨hb.cell 0,hb.cell 1,hb.cell 2,hb.cell 3,hb.cell 4,hb.cell 5,hb.cell 6,hb.cell 7,hb.cell 8⟩
  obtain ⟨D,hD⟩:∃D,(BV (hdr a0.toNat (aG L))).toArray=D:=⟨_,rfl⟩
  have HD:Hid _:=hD
  have hq:=wv (H:=[a0,a1,a2,a3,a4,a5,a6,a7,a8]) (G:=hdr a0.toNat (aG L)) rfl (gh _ _)
  rw [hD,i7] at hq
  clear hD
  by_cases heq:[a0,a1,a2,a3,a4,a5,a6,a7,a8]=hdr a0.toNat (aG L)
  ·have e1:decide ([a0,a1,a2,a3,a4,a5,a6,a7,a8]≠hdr a0.toNat (aG L))=false:=by simp [heq]
   rw [e1] at hq
   clear e1
   have HC:Hid (code L=0):=by unfold Hid code;rw [if_neg (by simpa using HSP.out),HT.out,HK.out,if_pos heq]
   clear heq
   refine wp_region_noPanic ?_
   refine am 1000 (fun x=>w2.grownBy x none) (by kernel_rfl) ?_
   have J:Idx [0,1,2]:=trivial
   iterate 3 (refine tK J (af _ _) rfl rfl (fun wk hk=>by obtain ⟨k0,k1,k2,k3,k4,k5,k6,k7,k8⟩:=HQ.out wk hk;go_simp;try rfl) ?_;replace J:=J.tl;try simp only [pN])
   refine wO 3 rfl fun K hK=>?_
   go_simp
   refine (jF a0.toNat _ (aG L) _ ha0 (GW.out.2.2.2.grown (af _ _)) (by rw [HL.out.1];exact HL.out.2)).mono ?_
   rintro e w3 ⟨rfl,g3⟩
   have G3:Hid (w2.grownBy w3 none):=aa (af _ _) g3
   clear g3
   rw [HD.out]
   go_wp2_with fail
   refine hK.out _ _ (fun _=>G3.out) ?_
   clear hK K
   try simp only [pN]
   refine tS 4 (G3.out) rfl rfl (fun wk hk=>by obtain ⟨k0,k1,k2,k3,k4,k5,k6,k7,k8⟩:=HQ.out wk hk;go_simp;try rfl) ?_
   try simp only [pN]
   refine wD ?_
   refine (‹∀(a:Act) (w:World),Code.wp Tryz.prog _ _ a w->_› _ _ ?_)
   go_wp2_with fail
   refine (ep _ (aG L) _ (GW.out.2.2.2.grown G3.out) (by rw [HL.out.1];have:=HL.out.2;omega)).mono ?_
   rintro e w4 ⟨u,rfl,o4,g4⟩
   have H4:Hid (Own w4 w3.heap.size u (aG L)/\w.grownBy w4 none/\Blk w4 w.heap.size 109 #[.int .i64 0,.slice none 0 0]):=⟨o4,aa (aa GW.out.1 G3.out) g4,(GW.out.2.1.grown G3.out (by simp)).grown g4 (by simp)⟩
   clear o4 g4
   obtain ⟨au,cu,hu⟩:=H4.out.1.seg.shape
   rw [HL.out.1] at hu
   subst hu
   have q0:=H4.out.2.2.cell 0
   have q1:=H4.out.2.2.cell 1
   have f0:=H4.out.2.2.free 0
   have f1:=H4.out.2.2.free 1
   simp at q0 q1
   go_wp2_with fail
   refine bodyPost_ret (sl rfl (eH (b_ _ _ H4.out.2.2)) rfl rfl) rfl ?_
   refine ⟨ck _ _ H4.out.2.1 (Nat.le_refl _),fun h=>absurd HC.out h,fun _=>⟨.slice au m cu,?_,?_⟩⟩
   ·rw [HK.out]
    rfl
   ·have hle:w.heap.size+1<=w3.heap.size:=by have h1:=G3.out.size;have h2:=GW.out.2.2.1.lt;omega
    refine Own.mono (B:=w3.heap.size) (H4.out.1.same fun k hk=>?_) (by omega)
    have hk2:=(H4.out.1.lt k hk).1
    rw [heap_setCell_other _ _ _ _ (by simp;omega),heap_setCell_other _ _ _ _ (by simp;omega)]
  ·have e1:decide ([a0,a1,a2,a3,a4,a5,a6,a7,a8]≠hdr a0.toNat (aG L))=true:=by simp [heq]
   rw [e1] at hq
   clear e1
   have HC:Hid (code L=141):=by unfold Hid code;rw [if_neg (by simpa using HSP.out),HT.out,HK.out,if_neg heq]
   clear heq
   refine wp_region_noPanic ?_
   refine am 1000 (fun x=>w2.grownBy x none) (by kernel_rfl) ?_
   have J:Idx [0,1,2]:=trivial
   iterate 3 (refine tK J (af _ _) rfl rfl (fun wk hk=>by obtain ⟨k0,k1,k2,k3,k4,k5,k6,k7,k8⟩:=HQ.out wk hk;go_simp;try rfl) ?_;replace J:=J.tl;try simp only [pN])
   refine wO 3 rfl fun K hK=>?_
   go_simp
   refine (jF a0.toNat _ (aG L) _ ha0 (GW.out.2.2.2.grown (af _ _)) (by rw [HL.out.1];exact HL.out.2)).mono ?_
   rintro e w3 ⟨rfl,g3⟩
   have G3:Hid (w2.grownBy w3 none):=aa (af _ _) g3
   clear g3
   rw [HD.out]
   go_wp2_with fail
   refine hK.out _ _ (fun _=>G3.out) ?_
   clear hK K
   try simp only [pN]
   refine tS 4 (G3.out) rfl rfl (fun wk hk=>by obtain ⟨k0,k1,k2,k3,k4,k5,k6,k7,k8⟩:=HQ.out wk hk;go_simp;try rfl) ?_
   try simp only [pN]
   refine wD ?_
   refine (‹∀(a:Act) (w:World),Code.wp Tryz.prog _ _ a w->_› _ _ ?_)
   have H4:Hid (w.grownBy w3 none/\Blk w3 w.heap.size 109 #[.int .i64 0,.slice none 0 0]):=⟨aa GW.out.1 G3.out,GW.out.2.1.grown G3.out (by simp)⟩
   have q0:=H4.out.2.cell 0
   have q1:=H4.out.2.cell 1
   have f0:=H4.out.2.free 0
   have f1:=H4.out.2.free 1
   simp at q0 q1
   go_wp2_with fail
   refine bodyPost_ret (sl rfl (eH (b_ _ _ H4.out.2)) rfl rfl) rfl ?_
   refine ⟨ck _ _ H4.out.1 (Nat.le_refl _),fun _=>by rw [HC.out];rfl,fun h=>absurd h (by rw [HC.out];decide)⟩
 ·have hb:=hbad hsp
  subst hb
  obtain ⟨a0,a1,a2,a3,a4,a5,a6,a7,a8,hH9⟩:=gi hH
  rw [hH9,i7]
  have HC:Hid (code L=spl L):=by unfold Hid code;rw [if_pos hsp]
  obtain ⟨c,hc⟩:∃c,spl L=c:=⟨_,rfl⟩
  rw [hc] at hsp HC ⊢
  have hci:¬(c:Int)=0:=by omega
  clear hc hbad hok hH hH9
  go_upto_region 3 with fail
  have H4:Hid (w.grownBy (w1.alloc (.cells #[.int .u8 a0.toNat,.int .u8 a1.toNat,.int .u8 a2.toNat,.int .u8 a3.toNat,.int .u8 a4.toNat,.int .u8 a5.toNat,.int .u8 a6.toNat,.int .u8 a7.toNat,.int .u8 a8.toNat] 162)) none/\Blk (w1.alloc (.cells #[.int .u8 a0.toNat,.int .u8 a1.toNat,.int .u8 a2.toNat,.int .u8 a3.toNat,.int .u8 a4.toNat,.int .u8 a5.toNat,.int .u8 a6.toNat,.int .u8 a7.toNat,.int .u8 a8.toNat] 162)) w.heap.size 109 #[.int .i64 0,.slice none 0 0]):=⟨aa G1.out.1 (World.grownBy_alloc _ _ _),Blk.grown G1.out.2 gA_ (by simp)⟩
  generalize w1.alloc (.cells #[.int .u8 a0.toNat,.int .u8 a1.toNat,.int .u8 a2.toNat,.int .u8 a3.toNat,.int .u8 a4.toNat,.int .u8 a5.toNat,.int .u8 a6.toNat,.int .u8 a7.toNat,.int .u8 a8.toNat] 162)=w2 at H4 ⊢
  have q0:=H4.out.2.cell 0
  have q1:=H4.out.2.cell 1
  have f0:=H4.out.2.free 0
  have f1:=H4.out.2.free 1
  simp at q0 q1
  go_wp2_with fail
  refine bodyPost_ret (sl rfl (eH (b_ _ _ H4.out.2)) rfl rfl) rfl ?_
  refine ⟨ck _ _ H4.out.1 (Nat.le_refl _),fun _=>by rw [HC.out];rfl,fun h=>absurd h (by rw [HC.out];exact hsp)⟩
theorem mo (v:Value)(R:List UInt8)(w:World)(hs:Seg w v R)(hR:R≠[]->code R≠0):Calls Tryz.prog 84 #[v] w fun e w'=>e=.returned (.int .i64 (ends R:Nat))/\w.grownBy w' none:=by
 obtain ⟨ao,cap,hv⟩:=hs.shape
 subst hv
 by_cases h0:R=[]
 ·subst h0
  clear hs hR
  go_enter Tryz.func84,Tryz.ntmps84
  go_wp2_with fail
  go_ret
  exact ⟨rfl,aj _ _⟩
 ·have hc:=hR h0
  have HE:Hid (ends R=code R):=by unfold Hid ends;rw [if_neg h0]
  obtain ⟨n,hn⟩:∃n,R.length=n:=⟨_,rfl⟩
  have HS:Hid (Seg w (.slice ao n cap) R):=by rw [<-hn];exact hs
  have hn0:¬(n:Int)=0:=by
   have:n≠0:=fun e=>h0 (List.eq_nil_of_length_eq_zero (by rw [hn];exact e))
   omega
  rw [hn]
  clear hn hs hR h0
  go_enter Tryz.func84,Tryz.ntmps84
  go_wp2_with fail
  refine (oT _ R _ HS.out).mono ?_
  rintro e w1 ⟨H,bv,hH,rfl,g1,hbad,hok⟩
  obtain ⟨a0,a1,a2,a3,a4,a5,a6,a7,a8,hH9⟩:=gi hH
  rw [hH9,i7]
  obtain ⟨ab,nb,cb,hbv⟩:∃ab nb cb,bv=.slice ab nb cb:=by
   by_cases hsp:spl R=0
   ·obtain ⟨ab,cb,h⟩:=(hok hsp).2.shape
    exact ⟨ab,_,cb,h⟩
   ·exact ⟨none,0,0,hbad hsp⟩
  subst hbv
  have G1:Hid _:=g1
  have HC:Hid (code R=if spl R=0 then 141 else spl R):=by
   unfold Hid
   by_cases hsp:spl R=0
   ·rw [if_pos hsp]
    unfold code at hc ⊢
    rw [if_neg (by simpa using hsp)] at hc ⊢
    by_cases ht:R.take 9=hdr (aW R) (aG R)
    ·rw [if_pos ht] at hc;exact absurd rfl hc
    ·rw [if_neg ht]
   ·rw [if_neg hsp];unfold code;rw [if_pos hsp]
  obtain ⟨c,hcc⟩:∃c,spl R=c:=⟨_,rfl⟩
  rw [hcc] at HC ⊢
  clear hcc hbad hok hH hH9 g1 hc HS
  by_cases hsp:c=0
  ·subst hsp
   go_wp2_with fail
   go_ret
   exact ⟨by rw [HE.out,HC.out];rfl,aa G1.out (World.grownBy_alloc _ _ _)⟩
  ·have hci:¬(c:Int)=0:=by omega
   go_wp2_with fail
   go_ret
   exact ⟨by rw [HE.out,HC.out,if_neg hsp];rfl,aa G1.out (World.grownBy_alloc _ _ _)⟩
theorem mp (v:Value)(L:List UInt8)(w:World)(hs:Seg w v L):Calls Tryz.prog 83 #[v] w fun e w'=>e=.returned (.func (.func 108) #[] #[.pointer (some ⟨w.heap.size,0,none⟩)])/\w'=w.alloc (.cells #[v] 23):=by
 obtain ⟨ao,cap,hv⟩:=hs.shape
 subst hv
 clear hs
 go_enter Tryz.func83,Tryz.ntmps83
 go_wp2_with fail
 go_ret
 exact ⟨rfl,rfl⟩
end Go.Proofs.YtadhfejefpildaaGreat.Frame
namespace Go.Proofs.YtadhfejefpildaaGreat.Frame
open Go.RowKit Disk
def jG (l:Frs):Prop:=∀f ∈ l,0<=f.1/\f.1<=255
def li (l:Frs):Prop:=∀f ∈ l,f.2.length<=2147483647
theorem qf (v:Value)(l:Frs)(w:World)(h:FSeg w v l)(hl:li l):Calls Tryz.prog 97 #[v] w fun e w'=>((jG l/\e=.returned (.int .i64 0))\/(¬jG l/\e=.returned (.int .i64 2)))/\w.grownBy w' none:=by
 have HF:Hid _:=h
 obtain ⟨ao,cap,rfl,hlen,hcells⟩:=h
 have HC:Hid _:=hcells
 have HL:Hid (li l):=hl
 clear hcells hl HF
 go_enter Tryz.func97,Tryz.ntmps97
 go_wp2_with fail
 go_loopw [3,8] (fun e i wr=>∃k:Nat,k<=l.length/\e=.int .i64 0/\i=.int .i64 k/\w.grownBy wr none/\∀j (hj:j<l.length),j<k->0<=l[j].1/\l[j].1<=255) (fun _ i _=>l.length-(intOf i).toNat)
 case atStart=>exact ⟨0,Nat.zero_le _,rfl,rfl,aj _ _,fun j hj h=>absurd h (by omega)⟩
 case round =>
  obtain ⟨k,hk,rfl,rfl,hg,hok⟩:=hrel
  by_cases hlt:k<l.length
  ·obtain ⟨b,off,u,rfl,c0,c1,hs⟩:=HC.out k hlt
   have d0:=hg.cell c0 (by simp)
   have d1:=hg.cell c1 (by simp)
   obtain ⟨au,cu,hu⟩:=hs.shape
   subst hu
   have hbl:=HL.out l[k] (List.getElem_mem hlt)
   have HG:Hid (w.grownBy wr none):=hg
   have HOK:Hid _:=hok
   obtain ⟨m,hm⟩:∃m,l[k].2.length=m:=⟨_,rfl⟩
   obtain ⟨kd,hkd⟩:∃kd,l[k].1=kd:=⟨_,rfl⟩
   have HKD:Hid _:=hkd
   rw [hm] at d1 hbl
   rw [hkd] at d0
   have i1:(0:Int)<=(k:Int):=by omega
   have i2:(k:Int)<(l.length:Int):=by omega
   have i3:¬(2147483647:Int)<(m:Int):=by omega
   clear hg hok c0 c1 hs hm hkd
   by_cases hk0:kd<0
   ·go_wp2_with fail
    go_ret
    refine ⟨.inr ⟨fun hh=>?_,rfl⟩,aa HG.out (World.grownBy_alloc _ _ _)⟩
    have:=hh l[k] (List.getElem_mem hlt)
    rw [HKD.out] at this
    omega
   ·by_cases hk1:255<kd
    ·go_wp2_with fail
     go_ret
     refine ⟨.inr ⟨fun hh=>?_,rfl⟩,aa HG.out (World.grownBy_alloc _ _ _)⟩
     have:=hh l[k] (List.getElem_mem hlt)
     rw [HKD.out] at this
     omega
    ·go_wp2_with fail
     go_roundw
     case rel =>
      refine ⟨k+1,by omega,rfl,by go_num,aa HG.out (World.grownBy_alloc _ _ _),fun j hj hjk=>?_⟩
      by_cases hjk2:j<k
      ·exact HOK.out j hj hjk2
      ·obtain rfl:j=k:=by omega
       rw [HKD.out]
       omega
     case measure=>simp [intOf];omega
  ·have e:k=l.length:=by omega
   subst e
   have HG:Hid (w.grownBy wr none):=hg
   have HOK:Hid _:=hok
   clear hg hok
   go_wp2_with fail
   go_ret
   refine ⟨.inl ⟨fun f hf=>?_,rfl⟩,HG.out⟩
   obtain ⟨j,hj,rfl⟩:=List.getElem_of_mem hf
   exact HOK.out j hj hj
def pcs:Frs->List (List UInt8)
 | []=>[]
 | f :: t=>hdr f.1.toNat f.2 :: f.2 :: pcs t
theorem oU:∀l:Frs,(pcs l).length=l.length*2
 | []=>rfl
 | f :: t=>by simp [pcs,oU t];omega
theorem jH:∀l:Frs,(pcs l).flatten=flat l
 | []=>rfl
 | f :: t=>by rw [dj,<-jH t];simp [pcs,frm]
theorem oV:∀(l:Frs) (j:Nat) (h:j<l.length),(pcs l)[j*2]? = some (hdr l[j].1.toNat l[j].2)/\(pcs l)[j*2+1]? = some l[j].2
 | [],j,h=>absurd h (by simp)
 | f :: t,0,_=>⟨rfl,rfl⟩
 | f :: t,j+1,h=>by
  have:=oV t j (by simpa using h)
  rw [show (j+1)*2=j*2+1+1 from by omega]
  simpa [pcs] using this
structure Pcs (w wr:World)(l:Frs)(k:Nat)(v:Value)(ps:List Value):Prop where
 row:wr.ownsRow w.heap.size 23 1 v (2*k) ps
 len:ps.length=2*k
 gr:w.grownBy wr none
 each:∀j (hj:j<l.length),j<k->∃b u,ps[j*2]? = some (.slice (some ⟨b,0,none⟩) 9 9)/\Blk wr b 162 (BV (hdr l[j].1.toNat l[j].2)).toArray/\ps[j*2+1]? = some u/\Seg w u l[j].2
theorem fN {w:World}{B:Nat}{v:Value}{n:Nat}{xs:List Value}{b t:Nat}{c:Array Value}(h:w.ownsRow B 23 1 v n xs)(hb:Blk w b t c)(ht:t≠23):v.ownBlock≠some b:=by
 rcases h.2 with ⟨rfl,_⟩ | ⟨g,cap,cur,rfl,_,hg,_⟩
 ·simp [Value.ownBlock]
 ·intro e
  simp [Value.ownBlock] at e
  subst e
  unfold Blk at hb
  rw [hg] at hb
  simp at hb
  exact ht hb.2.symm
theorem Pcs.grown {w wr wr':World}{l:Frs}{k:Nat}{v:Value}{ps:List Value}(h:Pcs w wr l k v ps)(hg:wr.grownBy wr' none):Pcs w wr' l k v ps:=by
 refine ⟨World.ownsRow.kept h.row hg (by cases v.ownBlock <;> simp),h.len,aa h.gr hg,fun j hj hjk=>?_⟩
 obtain ⟨b,u,h1,h2,h3,h4⟩:=h.each j hj hjk
 exact ⟨b,u,h1,h2.grown hg (by simp),h3,h4⟩
theorem Pcs.shape {w wr:World}{l:Frs}{k:Nat}{v:Value}{ps:List Value}(h:Pcs w wr l k v ps):∃ao cap,v=.slice ao (2*k) cap:=by
 rcases h.row.2 with ⟨rfl,h0⟩ | ⟨g,cap,cur,rfl,_⟩
 ·exact ⟨none,0,by rw [h0]⟩
 ·exact ⟨_,_,rfl⟩
theorem Pcs.snoc {w wr wr':World}{l:Frs}{k:Nat}{v v':Value}{ps:List Value}(h:Pcs w wr l k v ps)(hk:k<l.length){b:Nat}{u:Value}(hb:Blk wr b 162 (BV (hdr l[k].1.toNat l[k].2)).toArray)(hu:Seg w u l[k].2)(hg:wr.grownBy wr' v.ownBlock)(hr:wr'.ownsRow w.heap.size 23 1 v' (2*k+2) (ps ++ [.slice (some ⟨b,0,none⟩) 9 9,u])):Pcs w wr' l (k+1) v' (ps ++ [.slice (some ⟨b,0,none⟩) 9 9,u]):=by
 have hl:=h.len
 refine ⟨hr,by simp [hl];omega,ah h.gr hg (fun x hx=>(World.ownsRow.lt h.row x hx).1),fun j hj hjk=>?_⟩
 by_cases hjk2:j<k
 ·obtain ⟨b',u',h1,h2,h3,h4⟩:=h.each j hj hjk2
  refine ⟨b',u',?_,h2.grown hg (fN h.row h2 (by decide)),?_,h4⟩
  ·rw [List.getElem?_append_left (by omega)];exact h1
  ·rw [List.getElem?_append_left (by omega)];exact h3
 ·obtain rfl:j=k:=by omega
  refine ⟨b,u,?_,hb.grown hg (fN h.row hb (by decide)),?_,hu⟩
  ·rw [List.getElem?_append_right (by omega),show j*2-ps.length=0 from by omega];rfl
  ·rw [List.getElem?_append_right (by omega),show j*2+1-ps.length=1 from by omega];rfl
theorem Pcs.segs {w wr:World}{l:Frs}{v:Value}{ps:List Value}(h:Pcs w wr l l.length v ps)(hl:l.length<=4398046511104):Wire.Segs wr v (pcs l):=by
 obtain ⟨ao,cap,e⟩:=h.shape
 have hlen:(pcs l).length=2*l.length:=by rw [oU];omega
 refine ⟨ao,cap,by rw [e,hlen],by omega,fun j hj=>?_⟩
 rw [hlen] at hj
 obtain ⟨b,u,h1,h2,h3,h4⟩:=h.each (j / 2) (by omega) (by omega)
 obtain ⟨q1,q2⟩:=oV l (j / 2) (by omega)
 rcases h.row.2 with ⟨_,h0⟩ | ⟨g,c,cur,e2,hb,hg,h5,h6,h7,h8⟩
 ·omega
 ·rw [e] at e2
  simp at e2
  have hr:wr.ownsRow w.heap.size 23 1 (.slice (some ⟨g,0,none⟩) (2*l.length) cap) (2*l.length) ps:=by
   have:=h.row
   rw [e,e2.1] at this
   exact this
  by_cases hp:j % 2=0
  ·have ej:j / 2*2=j:=by omega
   rw [ej] at h1 q1
   refine ⟨g,0,.slice (some ⟨b,0,none⟩) 9 9,e2.1,?_,?_⟩
   ·rw [Nat.zero_add,hr.cellAt j (by omega)]
    exact h1
   ·have eq:(pcs l)[j]=hdr l[j / 2].1.toNat l[j / 2].2:=by
     have:=List.getElem?_eq_getElem (l:=pcs l) (i:=j) (by rw [hlen];exact hj)
     rw [this] at q1
     simpa using q1
    rw [eq]
    exact ml h2 _ 9 9 (by rw [List.take_of_length_le (by simp [eD,gh])]) (gh _ _) (by omega) (by omega)
  ·have ej:j / 2*2+1=j:=by omega
   rw [ej] at h3 q2
   refine ⟨g,0,u,e2.1,?_,?_⟩
   ·rw [Nat.zero_add,hr.cellAt j (by omega)]
    exact h3
   ·have eq:(pcs l)[j]=l[j / 2].2:=by
     have:=List.getElem?_eq_getElem (l:=pcs l) (i:=j) (by rw [hlen];exact hj)
     rw [this] at q2
     simpa using q2
    rw [eq]
    exact h4.grown h.gr
def oW (l:Frs)(w:World)(e:Ending)(w':World):Prop :=
 w.grownBy w' none/\(¬jG l->e=.returned (.tuple #[.slice none 0 0,.int .i64 2]))/\(jG l->∃u,e=.returned (.tuple #[u,.int .i64 0])/\Own w' w.heap.size u (flat l))
theorem sm (v:Value)(l:Frs)(w:World)(h:FSeg w v l)(hl:li l)(hn:l.length<=2932031007402)(hf:(flat l).length<=140737488355328):Calls Tryz.prog 72 #[v] w (oW l w):=by
 have HF:Hid (FSeg w v l):=h
 obtain ⟨ao,cap,hv⟩:=h.shape
 subst hv
 have HL:Hid (li l):=hl
 have HFL:Hid _:=hf
 clear h hl hf
 go_enter Tryz.func72,Tryz.ntmps72
 go_wp2_with fail
 refine (qf _ l _ HF.out HL.out).mono ?_
 rintro e w1 ⟨(⟨hK,rfl⟩ | ⟨hK,rfl⟩),g1⟩
 ·have HK:Hid (jG l):=hK
  have G1:Hid (w.grownBy w1 none):=g1
  clear hK g1
  go_wp2_with fail
  go_loopw [5,16] (fun p i wr=>∃(k:Nat) (ps:List Value),k<=l.length/\i=.int .i64 k/\Pcs w wr l k p ps) (fun _ i _=>l.length-(intOf i).toNat)
  case atStart=>exact ⟨0,[],Nat.zero_le _,rfl,World.ownsRow_nil _ _ _ _,rfl,G1.out,fun j _ h=>absurd h (by omega)⟩
  case round =>
   obtain ⟨k,ps,hk,rfl,hP⟩:=hrel
   obtain ⟨ap,cp,hp⟩:=hP.shape
   subst hp
   have HP:Hid _:=hP
   clear hP
   by_cases hlt:k<l.length
   ·obtain ⟨ao',cap',hv,_,hcells⟩:=HF.out
    simp at hv
    obtain ⟨rfl,rfl⟩:=hv
    obtain ⟨b,off,u,rfl,c0,c1,hs⟩:=hcells k hlt
    have d0:=HP.out.gr.cell c0 (by simp)
    have d1:=HP.out.gr.cell c1 (by simp)
    have HSB:Hid (Seg w u l[k].2):=hs
    obtain ⟨au,cu,hu⟩:=hs.shape
    subst hu
    obtain ⟨m,hm⟩:∃m,l[k].2.length=m:=⟨_,rfl⟩
    have HM:Hid _:=hm
    have hkk:=HK.out l[k] (List.getElem_mem hlt)
    have hml:=HL.out l[k] (List.getElem_mem hlt)
    obtain ⟨q,hq⟩:∃q:Nat,l[k].1=(q:Int):=⟨l[k].1.toNat,by omega⟩
    have HQ:Hid _:=hq
    have hq2:q<256:=by omega
    rw [hm] at d1 HSB hml
    rw [hq] at d0
    have i1:(0:Int)<=(k:Int):=by omega
    have i2:(k:Int)<(l.length:Int):=by omega
    clear hcells c0 c1 hs hm hq hkk
    go_wp2_with fail
    refine (jF q _ l[k].2 _ hq2 ((HSB.out.grown HP.out.gr).grown (World.grownBy_alloc _ _ _)) (by rw [HM.out];exact hml)).mono ?_
    rintro e w2 ⟨rfl,g2⟩
    have G2:Hid (wr.grownBy w2 none/\Blk w2 wr.heap.size 109 #[.int .i64 (q:Int),.slice au m cu]):=⟨aa (World.grownBy_alloc _ _ _) g2,Blk.grown (heap_alloc_new _ _) g2 (by simp)⟩
    clear g2
    obtain ⟨C,hC⟩:∃C,(BV (hdr q l[k].2)).toArray=C:=⟨_,rfl⟩
    have HC:Hid (C.all (·.oneCell')=true/\C.size=9/\(BV (hdr q l[k].2)).toArray=C):=by
     refine ⟨?_,?_,hC⟩
     ·rw [<-hC,List.all_toArray]
      exact List.all_eq_true.2 fun u hu=>eF _ u hu
     ·rw [<-hC]
      simp [eD,gh]
    rw [hC]
    clear hC
    go_wp2_with (refine Crc.bj _ rfl rfl (.tmp 8) (.tmp 24) 162 rfl w2.heap.size C #[.int .u8 0,.int .u8 0,.int .u8 0,.int .u8 0,.int .u8 0,.int .u8 0,.int .u8 0,.int .u8 0,.int .u8 0] (by rw [HC.out.2.1];exact Tryz.size162) (by rw [HC.out.2.1];rfl) HC.out.1 rfl rfl (heap_alloc_new w2 _) ?_;rw [World.setRow_alloc_new])
    have H3:Hid (Pcs w (w2.alloc (.cells C 162)) l k (.slice ap (2*k) cp) ps/\Blk (w2.alloc (.cells C 162)) wr.heap.size 109 #[.int .i64 (q:Int),.slice au m cu]/\Blk (w2.alloc (.cells C 162)) w2.heap.size 162 C):=⟨HP.out.grown (aa G2.out.1 (World.grownBy_alloc _ _ _)),G2.out.2.grown gA_ (by simp),heap_alloc_new _ _⟩
    generalize w2.alloc (.cells C 162)=w3 at H3 ⊢
    have HQQ:Hid (∀x:World,w3.grownBy x none->x.cell? ⟨wr.heap.size,1,none⟩=some (.slice au m cu)):=fun x hx=>(H3.out.2.1.grown hx (by simp)).cell 1
    refine wp_region_noPanic ?_
    refine am 1000 (fun x=>x.cell? ⟨wr.heap.size,1,none⟩=some (.slice au m cu)) (by kernel_rfl) ?_
    have J:Idx [0,1,2,3]:=trivial
    iterate 4 (refine tK J (HQQ.out _ (af _ _)) rfl rfl (fun wk hk=>by have k0:=hk;go_simp;try rfl) ?_;replace J:=J.tl;try simp only [pN])
    refine wO 4 rfl fun K hK=>?_
    go_wp2_with fail
    have G4:Hid (w3.grownBy (w3.drew.alloc (.cells #[.slice (some ⟨w2.heap.size,0,none⟩) 9 9,.slice au m cu] 23)) none/\Blk (w3.drew.alloc (.cells #[.slice (some ⟨w2.heap.size,0,none⟩) 9 9,.slice au m cu] 23)) w3.heap.size 23 #[.slice (some ⟨w2.heap.size,0,none⟩) 9 9,.slice au m cu]):=⟨aa (af _ _) (World.grownBy_alloc _ _ _),heap_alloc_new w3.drew _⟩
    refine hK.out _ _ (fun _=>HQQ.out _ G4.out.1) ?_
    clear hK K
    try simp only [pN]
    refine wO 5 rfl fun K hK=>?_
    refine tX _ (.tmp 25) (.tmp 29) rfl w.heap.size (.slice ap (2*k) cp) ps (2*k) HP.out.len (.slice (some ⟨w2.heap.size,0,none⟩) 9 9) (.slice au m cu) w3.heap.size rfl rfl (H3.out.1.grown G4.out.1).row (G4.out.2.cell 0) (G4.out.2.cell 1) rfl rfl (by omega) (Nat.le_trans H3.out.1.gr.size G4.out.1.size) ?_
    intro g' cap' w5 hrow hg5 _
    have H5:Hid (Pcs w w5 l (k+1) (.slice (some ⟨g',0,none⟩) (2*k+2) cap') (ps ++ [.slice (some ⟨w2.heap.size,0,none⟩) 9 9,.slice au m cu])):=by
     refine (H3.out.1.grown G4.out.1).snoc hlt ?_ HSB.out hg5 hrow
     have:=H3.out.2.2.grown G4.out.1 (by simp)
     rw [HQ.out,Int.toNat_natCast,HC.out.2.2]
     exact this
    have HB5:Hid (w5.cell? ⟨wr.heap.size,1,none⟩=some (.slice au m cu)):=by
     have hb:=H3.out.2.1.grown G4.out.1 (by simp)
     exact (hb.grown hg5 (fN (H3.out.1.grown G4.out.1).row hb (by decide))).cell 1
    clear hrow hg5
    refine hK.out _ _ (fun _=>HB5.out) ?_
    clear hK K
    try simp only [pN]
    refine tS 6 (HB5.out) rfl rfl (fun wk hk=>by have k0:=hk;go_simp;try rfl) ?_
    try simp only [pN]
    refine wD ?_
    refine (‹∀(a:Act) (w:World),Code.wp Tryz.prog _ _ a w->_› _ _ ?_)
    go_wp2_with fail
    go_roundw
    case rel=>exact ⟨k+1,_,by omega,by go_num,H5.out⟩
    case measure=>simp [intOf];omega
   ·obtain rfl:k=l.length:=by omega
    go_wp2_with fail
    refine (Wire.bO _ (pcs l) _ (HP.out.segs (by omega)) (by rw [jH];exact HFL.out)).mono ?_
    rintro e w4 ⟨u,rfl,ou,g4⟩
    rw [jH] at ou
    have H4:Hid (Own w4 wr.heap.size u (flat l)/\wr.grownBy w4 none):=⟨ou,g4⟩
    clear ou g4
    go_wp2_with fail
    refine bodyPost_ret (v:=.tuple #[u,.int .i64 0]) (by simp [results,Tryz.results72]) rfl ?_
    exact ⟨aa HP.out.gr H4.out.2,fun h=>absurd HK.out h,fun _=>⟨u,rfl,H4.out.1.mono HP.out.gr.size⟩⟩
 ·have HK:Hid (¬jG l):=hK
  have G1:Hid (w.grownBy w1 none):=g1
  clear hK g1
  go_wp2_with fail
  refine bodyPost_ret (v:=.tuple #[.slice none 0 0,.int .i64 2]) (by simp [results,Tryz.results72]) rfl ?_
  exact ⟨G1.out,fun _=>rfl,fun h=>absurd h HK.out⟩
theorem put8 (k:Int)(v:Value)(L:List UInt8)(w:World)(h:Seg w v L)(hl:L.length<=2147483647):Calls Tryz.prog 38 #[.int .i64 k,v] w (oW [(k,L)] w):=by
 obtain ⟨ao,cap,hv⟩:=h.shape
 subst hv
 have HS:Hid (Seg w (.slice ao L.length cap) L):=h
 have HL:Hid _:=hl
 clear h hl
 go_enter Tryz.func38,Tryz.ntmps38
 go_wp2_with fail
 refine (sm _ [(k,L)] _ (sc HS.out) (by intro f hf;simp at hf;subst hf;exact HL.out) (by simp) (by rw [dj,r_,List.append_nil,dN];have:=HL.out;simp;omega)).mono ?_
 rintro e w1 ⟨g1,hbad,hok⟩
 have G1:Hid (w.grownBy w1 none):=aa (World.grownBy_alloc _ _ _) g1
 by_cases hK:jG [(k,L)]
 ·obtain ⟨u,rfl,ou⟩:=hok hK
  have HU:Hid (Own w1 (w.heap.size+1) u (flat [(k,L)])):=by unfold Hid;have:=ou;simpa using this
  have HK:Hid _:=hK
  clear g1 hbad hok ou hK
  go_wp2_with fail
  refine bodyPost_ret (v:=.tuple #[u,.int .i64 0]) (by simp [results,Tryz.results38]) rfl ?_
  exact ⟨G1.out,fun h=>absurd HK.out h,fun _=>⟨u,rfl,HU.out.mono (by omega)⟩⟩
 ·have he:=hbad hK
  subst he
  have HK:Hid _:=hK
  clear g1 hbad hok hK
  go_wp2_with fail
  refine bodyPost_ret (v:=.tuple #[.slice none 0 0,.int .i64 2]) (by simp [results,Tryz.results38]) rfl ?_
  exact ⟨G1.out,fun _=>rfl,fun h=>absurd h HK.out⟩
end Go.Proofs.YtadhfejefpildaaGreat.Frame
