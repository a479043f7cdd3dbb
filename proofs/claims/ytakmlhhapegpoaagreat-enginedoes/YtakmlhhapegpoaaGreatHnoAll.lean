import Derived.Test.YtakmlhhapegpoaaGreatSl
import Derived.Test.YtakmlhhapegpoaaGreatFp
import Derived.Test.YtakmlhhapegpoaaGreatCallsSp
namespace Go.Proofs.YtakmlhhapegpoaaGreat
open Go.RowKit Disk Table
open Names (Str cmpL keyB valueB tabB)
open _root_.Go.Proofs.YtakmlhhapegpoaaGreat.Calls (POp POut PRes opV OpSeg mayOp Ops OpAt ops_at ops_open chk rds mayCall)
def LookZ (q:Int × Int)(D:DB)(l:List POp)(w:World)(e:Ending)(w':World):Prop :=
 ∃(a p:Int) (v:Value) (er:Int) (outs:List POut),e=.returned (.tuple #[.agg #[.int .i64 a,.int .i64 p,v],.int .i64 er])/\OutsN w' w.heap.size v outs/\w.grownBy w' none/\(chk l≠0->outs=[]/\er=chk l)/\(chk l=0->rds l=false->outs=[]/\a=0/\er=2)/\(chk l=0->rds l=true->er=0/\a=(doP q D l).abort/\p=((doP q D l).place:Int)/\outs=(doP q D l).outs)
theorem look26z {X:Nat->Prop}(b m:Nat)(q:Int × Int)(D:DB)(hD:DbQ q D)(v:Value)(l:List POp)(w:World)(hX:∀g,X g->g<w.heap.size)(hb:EngB w b q m)(hm:EM X w m D)(hv:Ops w v l):Calls Tryz.prog 26 #[.pointer (some ⟨b,0,none⟩),.agg #[v]] w (LookZ q D l w):=by
 refine (look26 b m q D hD v l w hX hb hm hv).mono ?_
 rintro e w' ⟨g,⟨h0,rfl⟩ | ⟨h0,h1,rfl⟩ | ⟨h0,h1,outs,D',hc,v,rfl,hO⟩ | ⟨h0,h1,c,n,hc,rfl⟩⟩
 ·exact ⟨_,_,_,_,[],rfl,OutsN.nil _ _,g,fun _=>⟨rfl,rfl⟩,fun h=>absurd h h0,fun h=>absurd h h0⟩
 ·exact ⟨_,_,_,_,[],rfl,OutsN.nil _ _,g,fun h=>absurd h0 h,fun _ _=>⟨rfl,rfl,rfl⟩,fun _ h=>by rw [h1] at h;cases h⟩
 ·exact ⟨_,_,_,_,outs,rfl,hO,g,fun h=>absurd h0 h,(fun _ h=>by rw [h1] at h;cases h),fun _ _=>by simp [doP,h0,hc]⟩
 ·exact ⟨_,_,_,_,[],rfl,OutsN.nil _ _,g,fun h=>absurd h0 h,(fun _ h=>by rw [h1] at h;cases h),fun _ _=>by simp [doP,h0,hc]⟩
def TryZ (X:Nat->Prop)(q:Int × Int)(D:DB)(l:List POp)(w:World)(e:Ending)(w':World):Prop :=
 ∃(y:Option Addr) (a p:Int) (v:Value) (er:Int) (outs:List POut),e=.returned (.tuple #[.pointer y,.agg #[.int .i64 a,.int .i64 p,v],.int .i64 er])/\OutsN w' w.heap.size v outs/\w.grownBy w' none/\(chk l≠0->y=none/\outs=[]/\er=chk l)/\(chk l=0->er=0/\a=(doP q D l).abort/\p=((doP q D l).place:Int)/\outs=(doP q D l).outs/\∃yb my,y=some ⟨yb,0,none⟩/\w.heap.size<=yb/\EngB w' yb q my/\EM X w' my (doP q D l).db)
theorem try34z {X:Nat->Prop}(b m:Nat)(q:Int × Int)(D:DB)(hD:DbQ q D)(v:Value)(l:List POp)(w:World)(hX:∀g,X g->g<w.heap.size)(hb:EngB w b q m)(hm:EM X w m D)(hv:Ops w v l):Calls Tryz.prog 34 #[.pointer (some ⟨b,0,none⟩),.agg #[v]] w (TryZ X q D l w):=by
 refine (try34 b m q D hD v l w hX hb hm hv).mono ?_
 rintro e w' ⟨g,⟨h0,rfl⟩ | ⟨h0,outs,D',hc,hd,db,v,rfl,hdb,⟨my,h1,h2⟩,hO⟩ | ⟨h0,c,n,hc,db,rfl,hdb,h1⟩⟩
 ·exact ⟨_,_,_,_,_,[],rfl,OutsN.nil _ _,g,fun _=>⟨rfl,rfl,rfl⟩,fun h=>absurd h h0⟩
 ·refine ⟨_,_,_,_,_,outs,rfl,hO,g,fun h=>absurd h0 h,fun _=>?_⟩
  rw [show doP q D l=⟨0,0,0,outs,D'⟩ by simp [doP,h0,hc]]
  exact ⟨rfl,rfl,rfl,rfl,db,my,rfl,hdb,h1,h2⟩
 ·refine ⟨_,_,_,_,_,[],rfl,OutsN.nil _ _,g,fun h=>absurd h0 h,fun _=>?_⟩
  rw [show doP q D l=⟨0,c,n,[],D⟩ by simp [doP,h0,hc]]
  exact ⟨rfl,rfl,rfl,rfl,db,m,rfl,hdb,h1,hm.grown g⟩
def RDoZ (X:Nat->Prop)(q:Int × Int)(D:DB)(l:List POp)(b:Nat)(w:World)(e:Ending)(w':World):Prop :=
 ∃u,e=.returned (.agg #[.int .i64 (doP q D l).abort,.int .i64 ((doP q D l).place:Int),u])/\OutsN w' w.heap.size u (doP q D l).outs/\REng X w' b q (flatD (doP q D l).db)/\w.grownBy w' (some b)
theorem rdo37z {X:Nat->Prop}(b:Nat)(q:Int × Int)(D:DB)(hD:DbQ q D)(v:Value)(l:List POp)(hc:chk l=0)(w:World)(hX:∀g,X g->g<w.heap.size)(hb:REng X w b q (flatD D))(hv:Ops w v l):Calls Tryz.prog 37 #[.pointer (some ⟨b,0,none⟩),.agg #[v]] w (RDoZ X q D l b w):=by
 refine (rdo37 b q D hD v l (chk_may hc).1 (by have:=(chk_may hc).2.2;omega) w hX hb hv).mono ?_
 rintro e w' ⟨g,⟨outs,D',h1,h2,u,rfl,hO,hR⟩ | ⟨c,n,h1,rfl,hR⟩⟩
 ·unfold RDoZ
  rw [show doP q D l=⟨0,0,0,outs,D'⟩ by simp [doP,hc,h1]]
  exact ⟨u,rfl,hO,hR,g⟩
 ·unfold RDoZ
  rw [show doP q D l=⟨0,c,n,[],D⟩ by simp [doP,hc,h1]]
  exact ⟨_,rfl,OutsN.nil _ _,hR,g⟩
theorem owns_same {w w':World}{B e size n:Nat}{v:Value}{xs:List Value}(h:w.ownsRow B e size v n xs)(hs:∀g,v.ownBlock=some g->w'.heap[g]? = w.heap[g]?):w'.ownsRow B e size v n xs:=by
 refine ⟨h.1,?_⟩
 rcases h.2 with h2 | ⟨g,cap,cur,h1,hb,h3,rest⟩
 ·exact .inl h2
 ·exact .inr ⟨g,cap,cur,h1,hb,(hs g (by rw [h1];rfl)).trans h3,rest⟩
theorem TRws.same {w w':World}{B:Nat}{v:Value}{l:List PRow}(h:TRws w B v l)(hs:∀g,B<=g->g<w.heap.size->w'.heap[g]? = w.heap[g]?):TRws w' B v l:=by
 obtain ⟨ks,h1,h2⟩:=h
 exact ⟨ks,owns_same h1 (fun g hg=>hs g (World.ownsRow.lt h1 g hg).1 (World.ownsRow.lt h1 g hg).2),h2.1,fun j a b=>⟨(h2.2 j a b).1.same (fun k hk=>hs k ((h2.2 j a b).1.lt k hk).1 ((h2.2 j a b).1.lt k hk).2),(h2.2 j a b).2.same (fun k hk=>hs k ((h2.2 j a b).2.lt k hk).1 ((h2.2 j a b).2.lt k hk).2)⟩⟩
theorem OutsY.same {Y:Nat->Prop}{w w':World}{B:Nat}{v:Value}{l:List POut}(h:OutsY Y w B v l)(hs:∀g,B<=g->g<w.heap.size->w'.heap[g]? = w.heap[g]?):OutsY Y w' B v l:=by
 obtain ⟨ks,h1,h2,h3,h4⟩:=h
 have hv:∀g,v.ownBlock=some g->w'.heap[g]? = w.heap[g]?:=fun g hg=>hs g (World.ownsRow.lt h1 g hg).1 (World.ownsRow.lt h1 g hg).2
 refine ⟨ks,owns_same h1 hv,⟨h2.1,fun j a b=>⟨(h2.2 j a b).has,(h2.2 j a b).value.same (fun k hk=>hs k ((h2.2 j a b).value.lt k hk).1 ((h2.2 j a b).value.lt k hk).2),TRws.same (h2.2 j a b).rows hs⟩⟩,h3.same hv,fun k hk=>⟨(h4 k hk).1,?_⟩⟩
 obtain ⟨j,hj,rfl⟩:=List.getElem_of_mem hk
 have hr:=(h2.2 j hj (by rw [<-h2.1];exact hj)).rows
 refine rowsY_same (h4 _ hk).2 hr (fun g c hg _=>?_)
 obtain ⟨_,r1,_⟩:=hr
 exact hs g (World.ownsRow.lt r1 g hg).1 (World.ownsRow.lt r1 g hg).2
theorem OutsN.y {w:World}{B:Nat}{v:Value}{l:List POut}(h:OutsN w B v l):OutsY (fun _=>True) w B v l:=by
 obtain ⟨ks,h1,h2,h3⟩:=h
 exact ⟨ks,h1,h2,h3,fun _ _=>⟨fun _ _=>trivial,fun _ _ _ _ _ _ _ _ _ _ _ _=>trivial⟩⟩
theorem OutsN.same {w w':World}{B:Nat}{v:Value}{l:List POut}(h:OutsN w B v l)(hs:∀g,B<=g->g<w.heap.size->w'.heap[g]? = w.heap[g]?):OutsN w' B v l:=(h.y.same hs).n
theorem reng_but {X:Nat->Prop}{w w':World}{rb b t:Nat}{q:Int × Int}{F:List NRow}{c:Array Value}(h:REng X w rb q F)(hb:Blk w b t c)(h61:t≠61)(h5:t≠5)(hne:rb≠b)(hs:∀g,g<w.heap.size->g≠b->w'.heap[g]? = w.heap[g]?):REng X w' rb q F:=by
 obtain ⟨v,h1,h2⟩:=h
 refine ⟨v,h1.same (hs rb h1.lt hne),h2.keep fun g hg _ ht=>hs g hg (fun e=>?_)⟩
 subst e
 rcases ht t c hb with h | h
 ·exact h61 h
 ·exact h5 h
end Go.Proofs.YtakmlhhapegpoaaGreat
namespace Go.Proofs.YtakmlhhapegpoaaGreat
open Go.RowKit Disk Table
open _root_.Go.Proofs.YtakmlhhapegpoaaGreat.Calls (POp POut PRes)
def ZI (Y:Nat->Prop)(B:Nat)(Wb W:World):Prop:=Sp5 Y Wb W/\Fr Wb W Y/\∀(v:Value) (L:Bs),Disk.Own Wb B v L->∃M:Bs,M.length=L.length/\Disk.Own W B v M
theorem ZI.refl (Y:Nat->Prop)(B:Nat)(w:World):ZI Y B w w:=⟨Sp5.refl _ _,Fr.of (grown_refl w none) (by simp),fun _ L h=>⟨L,rfl,h⟩⟩
theorem ZI.grown {Y:Nat->Prop}{B:Nat}{Wb W W':World}(h:ZI Y B Wb W)(hg:W.grownBy W' none):ZI Y B Wb W':=⟨h.1.trans (sp5_grown hg),h.2.1.trans (Fr.of (F:=Y) hg (by simp)) (fun i hi=>.inl hi),fun v L ho=>by
 obtain ⟨M,h1,h2⟩:=h.2.2 v L ho
 exact ⟨M,h1,h2.grown hg⟩⟩
theorem ZI.byte {Y:Nat->Prop}{B g j:Nat}{Wb W:World}{c:Array Value}{u:Value}(h:ZI Y B Wb W)(hb:Blk W g 5 c)(hY:Y g)(hc:W.cell? ⟨g,j,none⟩=some u)(hu:noP u):ZI Y B Wb (W.setCell ⟨g,j,none⟩ (.int .u8 90)):=⟨h.1.trans (sp5_store hb (.inl ⟨rfl,hY⟩) hc hu),h.2.1.trans (Fr.of (F:=Y) (grown_setCell W g j _) (fun k hk=>by simp at hk;rw [<-hk];exact hY)) (fun i hi=>.inl hi),fun v L ho=>by
 obtain ⟨M,h1,h2⟩:=h.2.2 v L ho
 obtain ⟨M',h3,h4⟩:=Calls.own_byte h2 g j
 exact ⟨M',h3.trans h1,h4⟩⟩
theorem ZI.blk {Y:Nat->Prop}{B x t:Nat}{Wb W:World}{c:Array Value}(h:ZI Y B Wb W)(hb:Blk Wb x t c)(h5:t≠5)(h67:t≠67)(h61:t≠61):Blk W x t c:=h.1.blk hb (fun e=>absurd e h5) h67 h61
theorem own_at {W:World}{B vn vy k:Nat}{vx:Option Addr}{M:Bs}(ho:Disk.Own W B (.slice vx vn vy) M)(hM:M.length=vn)(hk:k<vn):∃h c0 cc,vx=some ⟨h,0,none⟩/\W.cell? ⟨h,k,none⟩=some c0/\W.frozen? ⟨h,k,none⟩=false/\Blk W h 5 cc/\noP c0:=by
 rcases ho.shape with ⟨e,e2⟩ | ⟨g,cap,e,hB,_⟩
 ·simp at e;omega
 ·simp at e
  obtain ⟨rfl,_,rfl⟩:=e
  have hc:=Names.own_cell ho k (by omega)
  obtain ⟨cc,hcc⟩:=Calls.own_blk ho (k:=g) (by simp [Value.ownBlock])
  exact ⟨g,_,cc,rfl,hc.1,hc.2,hcc,fun p=>by simp [ptr]⟩
theorem zrows {Y:Nat->Prop}{Wb:World}{B:Nat}{v:Value}{l:List PRow}(h:TRws Wb B v l)(hy:RowsY Y Wb v):∃rx rn ry,v=.slice rx rn ry/\rn<=9223372036854775807/\∀k,k<rn->∃rg kx kn ky jx jn jy,rx=some ⟨rg,0,none⟩/\InY Y (.slice kx kn ky)/\kn<=9223372036854775807/\∀W,ZI Y B Wb W->W.cell? ⟨rg,k*2,none⟩=some (.slice kx kn ky)/\W.cell? ⟨rg,k*2+1,none⟩=some (.slice jx jn jy)/\∃M:Bs,M.length=kn/\Disk.Own W B (.slice kx kn ky) M:=by
 obtain ⟨ks,h1,h2⟩:=h
 rcases h1.2 with ⟨e2,e3⟩ | ⟨g,cap,cur,e2,hb,hg,hnc,hcm,hcs,htake⟩
 ·exact ⟨none,0,0,e2,by omega,fun k hk=>by omega⟩
 ·refine ⟨_,_,_,e2,by unfold maxLen at hcm;omega,fun k hk=>?_⟩
  have hkk:k<ks.length:=by rw [h2.1];exact hk
  have ho:=h2.2 k hkk hk
  obtain ⟨kx,ky,ek⟩:=ho.1.seg.shape
  obtain ⟨jx,jy,ej⟩:=ho.2.seg.shape
  have hat:=rcells_at ks k hkk
  have hblk:Blk Wb g 86 cur:=hg
  have cell:∀(j:Nat) (u:Value),j<l.length*2->(rcells ks)[j]? = some u->cur[j]? = some u:=fun j u hj hu=>by
   rw [<-htake,List.getElem?_take_of_lt hj] at hu
   simpa using hu
  have c0:=cell _ _ (by omega) hat.1
  have c1:=cell _ _ (by omega) hat.2
  rw [ek] at c0
  rw [ej] at c1
  refine ⟨g,kx,l[k].1.length,ky,jx,l[k].2.length,jy,rfl,hy g l.length cap cur e2 hblk (k*2) _ (by omega) c0,ho.1.seg.len,fun W hW=>?_⟩
  have hw:=hW.blk hblk (by decide) (by decide) (by decide)
  refine ⟨by rw [hw.cell];exact c0,by rw [hw.cell];exact c1,?_⟩
  obtain ⟨M,m1,m2⟩:=hW.2.2 _ _ ho.1
  rw [ek] at m2
  exact ⟨M,m1,m2⟩
theorem zouts {Y:Nat->Prop}{Wb:World}{B zn zc:Nat}{zs:Option Addr}{l:List POut}(h:OutsY Y Wb B (.slice zs zn zc) l)(i:Nat)(hi:i<l.length):∃g vx vn vy rx rn ry,zs=some ⟨g,0,none⟩/\InY Y (.slice vx vn vy)/\vn<=9223372036854775807/\rn<=9223372036854775807/\(∀W,ZI Y B Wb W->W.cell? ⟨g,i*3+1,none⟩=some (.slice vx vn vy)/\W.cell? ⟨g,i*3+2,none⟩=some (.slice rx rn ry)/\∃M:Bs,M.length=vn/\Disk.Own W B (.slice vx vn vy) M)/\∀k,k<rn->∃rg kx kn ky jx jn jy,rx=some ⟨rg,0,none⟩/\InY Y (.slice kx kn ky)/\kn<=9223372036854775807/\∀W,ZI Y B Wb W->W.cell? ⟨rg,k*2,none⟩=some (.slice kx kn ky)/\W.cell? ⟨rg,k*2+1,none⟩=some (.slice jx jn jy)/\∃M:Bs,M.length=kn/\Disk.Own W B (.slice kx kn ky) M:=by
 obtain ⟨ks,h1,h2,_,h4⟩:=h
 rcases h1.2 with ⟨e2,e3⟩ | ⟨g,cap,cur,e2,hb,hg,hnc,hcm,hcs,htake⟩
 ·omega
 ·simp at e2
  obtain ⟨rfl,rfl,rfl⟩:=e2
  have hkk:i<ks.length:=by rw [h2.1];exact hi
  have ho:=h2.2 i hkk hi
  have hm:ks[i] ∈ ks:=List.getElem_mem hkk
  obtain ⟨vx,vy,ek⟩:=ho.value.seg.shape
  obtain ⟨rx,rn,ry,er,hrn,hrk⟩:=zrows ho.rows (h4 _ hm).2
  have hat:=ocells_at ks i hkk
  have hblk:Blk Wb g 72 cur:=hg
  have cell:∀(j:Nat) (u:Value),j<l.length*3->(ocells ks)[j]? = some u->cur[j]? = some u:=fun j u hj hu=>by
   rw [<-htake,List.getElem?_take_of_lt hj] at hu
   simpa using hu
  have c1:=cell _ _ (by omega) hat.2.1
  have c2:=cell _ _ (by omega) hat.2.2
  have hin:=(h4 _ hm).1
  rw [ek] at c1 hin
  rw [er] at c2
  refine ⟨g,vx,l[i].value.length,vy,rx,rn,ry,rfl,hin,ho.value.seg.len,hrn,fun W hW=>?_,hrk⟩
  have hw:=hW.blk hblk (by decide) (by decide) (by decide)
  refine ⟨by rw [hw.cell];exact c1,by rw [hw.cell];exact c2,?_⟩
  obtain ⟨M,m1,m2⟩:=hW.2.2 _ _ ho.value
  rw [ek] at m2
  exact ⟨M,m1,m2⟩
theorem reng_wide {X Z:Nat->Prop}{w:World}{b:Nat}{q:Int × Int}{F:List NRow}(h:REng X w b q F)(hs:∀g,Z g->w.heap.size<=g):REng Z w b q F:=h.weak fun g hl hz=>by have:=hs g hz;omega
theorem reng_zi {Y Z:Nat->Prop}{B rb:Nat}{Wb W:World}{q:Int × Int}{F:List NRow}(h:REng Z Wb rb q F)(hz:ZI Y B Wb W)(hY:∀g,Y g->Z g):REng Z W rb q F:=by
 obtain ⟨v,h1,h2⟩:=h
 exact ⟨v,hz.blk h1 (by decide) (by decide) (by decide),h2.keep fun g hl hn _=>hz.2.1.block g hl (fun e=>hn (hY g e))⟩
end Go.Proofs.YtakmlhhapegpoaaGreat
