import Derived.Test.YtcjhlkdleojbjaaGreatP12
import Derived.Test.YtcjhlkdleojbjaaGreatP18
namespace Go.Proofs.Z
open Tryz Go.RowKit Flt
set_option maxRecDepth 1000000
set_option maxHeartbeats 0
section
attribute[local go_sem] eF eE eD
variable{R aa U:Option Addr}{m1 ae m3 ai base cap bJ:Nat}{vs:List Vl}{o C bE aI:Int}{H R':Option Nat}{c0 c3 c4 cp cr cn bd ca aj cx an cy ct cu cw:Value}
theorem NS{w W r vb c1}(HM:E (MS w W R m1 ae aa m3 ai vs ⟨o,C,r,vb,bE,bJ⟩ base H R' U cap))(au:vs.length<=900000):MfC 58 W (MpR w R m1 ae aa m3 ai vs ⟨o,C,r,vb,bE,bJ⟩ base H (eK o C aI 0 bE)) c0 c1 (hA aI) c3 c4 (hy w.heap.size) cp cr cn bd ca aj (hy (w.heap.size+1+1)) (hA C) cx an cy ct cu cw aj:=by
 have HC:E (∀az,Kept 0 0 W az->_):=λaz k=>MS.call HM.o k (eK o C aI 0 bE) xaa;have aD:=HM.o.v.c0;have G:=HM.o.v.c4;exact MpE
theorem NU{w W r vb i}(HM:E (MS w W R m1 ae aa m3 ai vs ⟨o,C,r,vb,bE,bJ⟩ base H R' U cap))(au:vs.length<=900000):MfC 57 W (MpR w R m1 ae aa m3 ai vs ⟨o,C,r,vb,bE,bJ⟩ base H (eK 4 C aI i 0)) c0 (hA i) (hA aI) c3 c4 (hy w.heap.size) cp cr cn bd ca aj (hy (w.heap.size+1+1)) (hA C) cx an cy ct cu cw aj:=by
 have HC:E (∀az,Kept 0 0 W az->_):=λaz k=>MS.call HM.o k (eK 4 C aI i 0) xaa;exact MpE
def nu(pl:List Spn)(v:Vl)(d:Int)(q:Nat)(n:Int)(z:Nat):Ste:=
 ⟨v.op,v.len,n,d,if 0<q then (pl.getD v.a.toNat Spn.zero).off else v.a,if 1<q then (pl.getD v.b.toNat Spn.zero).off else v.b,if 2<q then (pl.getD v.c.toNat Spn.zero).off else v.c,z⟩
def xB(pl:List Spn)(v:Vl)(d:Int):Ste:=
 nu pl v d (cnt v.op) (if 0<cnt v.op then (pl.getD v.a.toNat Spn.zero).len else 0) (if v.op=1 then v.k else 0)
abbrev Kn(S:Nat):Obj:=.cells #[.pointer (some ⟨S,4,none⟩),.pointer (some ⟨S,5,none⟩),.pointer (some ⟨S,6,none⟩)] 100
structure SO(w W:World)(v:Vl)(s:Ste):Prop where
 va:At W w.heap.size 0 v
 rs:AtT W (w.heap.size+1) 0 Ste.zero
 st:AtT W (w.heap.size+1+1) 0 s
 fr:∀o,W.frozen? ⟨w.heap.size+1,o,none⟩=false/\W.frozen? ⟨w.heap.size+1+1,o,none⟩=false
 lt:w.heap.size+1+1<W.heap.size
 kp:Kept 0 0 w W
section
variable{w W I:World}{v:Vl}{s B:Ste}
theorem SO.keep(f:SO w W v s)(k:Kept 0 0 W I):SO w I v s:=
 ⟨f.va.keep (hJ f.lt) k (.inr (.inl xaa)),f.rs.keep (hJ f.lt) k (.inr (.inl xaa)),f.st.keep f.lt k (.inr (.inl xaa)),λo=>⟨by rw[k.frozen (by have:=f.lt;show w.heap.size+1<_;omega) xaa];exact(f.fr o).1,by rw[k.frozen f.lt xaa];exact(f.fr o).2⟩,yak f.lt k.size,f.kp.trans k⟩
theorem SO.set(f:SO w W v s){o x}(h:AtT (W.setCell ⟨w.heap.size+1+1,o,none⟩ x) (w.heap.size+1+1) 0 B):SO w (W.setCell ⟨w.heap.size+1+1,o,none⟩ x) v B:=by
 have k:=fC (S:=λb=>b=w.heap.size+1+1) W (w.heap.size+1+1) o x rfl;obtain⟨c0,c1,c2,c3,c4,c5⟩:=f.va;have e:∀j,(W.setCell ⟨w.heap.size+1+1,o,none⟩ x).cell? ⟨w.heap.size,j,none⟩=W.cell? ⟨w.heap.size,j,none⟩:=λj=>eQ _ _ _ _ _ _ (.inl xaa);refine⟨⟨hL e c0,hL e c1,hL e c2,hL e c3,hL e c4,hL e c5⟩,f.rs.keepC (hJ f.lt) k xaa,h,λj=>by have:=f.fr j;simpa using this,by have:=f.lt;simpa using this,Chg.kept f.kp k λi e=>by omega⟩
abbrev vb(w:World)(v:Vl):World:=w.alloc (fH v.op v.len v.a v.b v.c v.k)
theorem GY(w v s):SO w (((vb w v).alloc (Ste.box ⟨0,0,0,0,0,0,0,0⟩)).alloc s.box) v s:=by
 have aw:=ez 0 0 (vb w v) (Ste.box ⟨0,0,0,0,0,0,0,0⟩);have ak:=ez 0 0 ((vb w v).alloc (Ste.box ⟨0,0,0,0,0,0,0,0⟩)) s.box;have a1:=lR (vb w v) ⟨0,0,0,0,0,0,0,0⟩;have U:=lR ((vb w v).alloc (Ste.box ⟨0,0,0,0,0,0,0,0⟩)) s;have f1:∀o,((vb w v).alloc (Ste.box ⟨0,0,0,0,0,0,0,0⟩)).frozen? ⟨(vb w v).heap.size,o,none⟩=false:=λo=>World.frozen?_alloc_at _ _ _ o rfl;have f2:∀o,(((vb w v).alloc (Ste.box ⟨0,0,0,0,0,0,0,0⟩)).alloc s.box).frozen? ⟨((vb w v).alloc (Ste.box ⟨0,0,0,0,0,0,0,0⟩)).heap.size,o,none⟩=false:=λo=>World.frozen?_alloc_at _ _ _ o rfl;have F:(vb w v).heap.size=w.heap.size+1:=by simp
 have N:((vb w v).alloc (Ste.box ⟨0,0,0,0,0,0,0,0⟩)).heap.size=w.heap.size+1+1:=by simp
 rw[F]at a1 f1;rw[N]at U f2;exact⟨(i9 w v).keep xac (aw.trans ak) (.inr (.inl xaa)),a1.keep xaa ak (.inr (.inl xaa)),U,λo=>⟨by rw[ak.frozen (by show w.heap.size+1<_;omega) xaa];exact f1 o,f2 o⟩,by simp,((ez 0 0 w _).trans aw).trans ak⟩
theorem SO.putQ{r d n z q}(f:SO w W v (nu r v d q n z))(h:q<3):SO w (W.setCell ⟨w.heap.size+1+1,4+q,none⟩ (hA (r.getD (fld v q).toNat Spn.zero).off)) v (nu r v d (q+1) n z):=by
 refine f.set ?_;obtain⟨c0,c1,c2,c3,c4,c5,cp,cr⟩:=f.st;rcases (by omega:q=0\/q=1\/q=2) with rfl|rfl|rfl
 all_goals
  simp only[nu] at*
  constructor<;>(try simp_all[fld])<;>exact sM
end
theorem NV(w lo hi a m c r v d)(f:PS w lo hi a m r)(ho:∀q,q<cnt v.op->0<=fld v q/\fld v q<m):
  Calls prog 28 #[v.agg,hA d,.slice a m c] w λe B=>e=.returned (xB r v d).agg/\Kept 0 0 w B:=by
 have HO:E _:=ho
 have HF:E (∀W,Kept 0 0 w W->∀j:Nat,j<m->∃g off,a=some ⟨g,off,none⟩/\g<w.heap.size/\W.cell? ⟨g,off+j*2,none⟩=some (hA (r.getD j Spn.zero).off)/\W.cell? ⟨g,off+j*2+1,none⟩=some (hA (r.getD j Spn.zero).len)):=λW k j hj=>by
  rcases f.at_ with bD|⟨g,off,e,_,_,bi,bk⟩
  ·omega
  ·obtain⟨c0,c1⟩:=bk j hj
   exact⟨g,off,e,bi,by rw[k.cell (p:=⟨g,off+j*2,none⟩) bi xaa];exact c0,by rw[k.cell (p:=⟨g,off+j*2+1,none⟩) bi xaa];exact c1⟩
 have ao:E _:=GY w v ⟨v.op,v.len,0,d,v.a,v.b,v.c,0⟩;obtain⟨z,(b2:E _)⟩:∃z,(if v.op=1 then v.k else 0)=z:=⟨_,rfl⟩
 clear ho f;go_enter func28,ntmps28;go_upto_region 2 with fail;generalize ((vb w v).alloc (Ste.box ⟨0,0,0,0,0,0,0,0⟩)).alloc (Ste.box ⟨v.op,v.len,0,d,v.a,v.b,v.c,0⟩)=aA at ao⊢;obtain⟨c0,c1,c2,c3,c4,c5⟩:=ao.o.va;go_upto_if 25 with fail
 go_cut [] (λcd=>E (SO w cd v (nu r v d 0 0 z)))
 case first=>
  by_cases c:v.op=1
  ·have H:E (SO w (aA.setCell ⟨w.heap.size+1+1,7,none⟩ (.float .f64 v.k)) v (nu r v d 0 0 z)):=by
    have:=ao.o.set (AtT.put7 ao.o.st v.k);rw[<-b2.o,hD c];exact this
   have b8:=(ao.o.fr 7).2;have cc:=ao.o.st.c7;have ar:(v.op==1)=true:=by rw[beq_iff_eq];exact c
   clear c ao b2;go_wp2_with fail;go_meet;exact H
  have ar:(v.op==1)=false:=by rw[beq_eq_false_iff_ne];exact c
  have e:z=0:=by rw[<-b2.o,hC c]
  clear c;go_wp2_with fail;go_meet;rw[e];exact ao
 case rest=>
 clear ao c0 c1 c2 c3 c4 c5;go_upto_region 5 with fail;have bM:=ez 0 0 wc (Kn (w.heap.size+1+1));have aD:E _:=hcut.o.keep bM
 have a2:E (∀q,q<3->(wc.alloc (Kn (w.heap.size+1+1))).cell? ⟨wc.heap.size,q,none⟩=some (.pointer (some ⟨w.heap.size+1+1,4+q,none⟩))):=λq ap=>by
  rw[yav]
  rcases (by omega:q=0\/q=1\/q=2) with rfl|rfl|rfl<;>rfl
 have al:E (w.heap.size+1+1<wc.heap.size/\wc.heap.size<(wc.alloc (Kn (w.heap.size+1+1))).heap.size):=⟨hcut.o.lt,by simp⟩
 clear bM hcut;generalize wc.alloc (Kn (w.heap.size+1+1))=bc at aD a2 al⊢;generalize wc.heap.size=bg at a2 al⊢;obtain⟨c0,c1,c2,c3,c4,c5⟩:=aD.o.va;go_wp2_with fail;refine yaj (pD bc v) ?_;rintro e bp ⟨cD,rfl,S,aq,bQ⟩;have aw:E _:=aD.o.keep bQ
 have P:E (∀W,Chg (λb=>b=w.heap.size+1+1) bp W->∀q,q<cnt v.op->W.cell? ⟨bg,q,none⟩=some (.pointer (some ⟨w.heap.size+1+1,4+q,none⟩))/\W.cell? ⟨cD,q,none⟩=some (hA (fld v q))):=λW k q ap=>by
  have ah:=fI v.op
  have bv:=al.o
  have au:=bQ.size
  rcases S.at_ with bD|⟨bY,N,l,F,_,h3,bG⟩
  ·omega
  ·cases l
   have:=bG q ap
   rw[Nat.zero_add,qY v ap]at this
   exact⟨by rw[k.cell (p:=⟨bg,q,none⟩) (by show bg<_;omega) (by show ¬bg=_;omega),bQ.cell (p:=⟨bg,q,none⟩) bv.2 xaa];exact a2.o q xaa,by rw[k.cell (p:=⟨cD,q,none⟩) h3 (by show ¬cD=_;omega)];exact this⟩
 have cG:=fI v.op
 have bm:E (xB r v d=nu r v d (cnt v.op) (if 0<cnt v.op then (r.getD v.a.toNat Spn.zero).len else 0) z):=by
  show _=_;rw[<-b2.o];rfl
 clear S aq bQ aD a2 al b2 c0 c1 c2 c3 c4 c5;obtain⟨cf,ab⟩:∃cf,cf=cnt v.op:=⟨_,rfl⟩
 rw[<-ab]at HO P cG bm⊢;have n:E _:=ab;clear ab;go_wp2_with fail;go_loopw [36] (λi I=>∃q:Nat,q<=cf/\i=hA q/\E (SO w I v (nu r v d q 0 z))/\E (Chg (λb=>b=w.heap.size+1+1) bp I)) (λi _=>cf-(intOf i).toNat)
 case atStart=>exact⟨0,yae,rfl,aw,(Kept.refl 0 0 bp).chg⟩
 case round=>
  obtain⟨q,ap,rfl,aW,bu⟩:=hrel;clear aw;by_cases aG:q<cf
  ·obtain⟨d3,cJ⟩:=P.o wr bu.o q aG;obtain⟨k,O⟩:∃k:Nat,fld v q=k:=⟨(fld v q).toNat,hJ (HO.o q aG)⟩
   have G:k<m:=hJ (HO.o q aG)
   obtain⟨az,off,rfl,_,ba,_⟩:=HF.o wr aW.o.kp k G;have H:E _:=aW.o.putQ (q:=q) xaa;have p:E (Chg (λb=>b=w.heap.size+1+1) bp (wr.setCell ⟨w.heap.size+1+1,4+q,none⟩ (hA (r.getD (fld v q).toNat Spn.zero).off))):=Chg.andThen bu.o (fC (S:=λb=>b=w.heap.size+1+1) wr _ (4+q) _ rfl);rw[O]at cJ H p;rw[Int.toNat_natCast]at H p;have J:=(aW.o.fr (4+q)).2;have cM:0<=(k:Int):=xaa;have ce:(k:Int)<m:=xaa;have Q:0<=(q:Int):=xaa;have X:(q:Int)<3:=xaa;have ad:(q:Int)<cf:=xaa
   have bB:∃u,wr.cell? ⟨w.heap.size+1+1,4+q,none⟩=some u:=by
    obtain⟨_,_,_,_,c4,c5,cp,_⟩:=aW.o.st;rcases (by omega:q=0\/q=1\/q=2) with rfl|rfl|rfl
    ·exact⟨_,c4⟩
    ·exact⟨_,c5⟩
    exact⟨_,cp⟩
   obtain⟨u,bB⟩:=bB;generalize (r.getD k Spn.zero).off=y at ba H p;clear aW bu O HO;go_wp2_with fail;go_region
   all_goals
    go_wp2_with fail
    go_roundw;exact⟨q+1,by omega,by go_num,H.o.keep (eG _),Chg.andThen p.o (eG _).chg⟩;simp[intOf];omega
  obtain rfl:q=cf:=xaa;obtain⟨c0,c1,c2,c3,c4,c5⟩:=aW.o.va;clear bu P;go_wp2_with fail;refine yaj (mU v.op wr) ?_;rintro e ci ⟨rfl,rfl⟩;rw[<-n.o];obtain⟨aV,bC⟩:∃aV,(if 0<q then (r.getD v.a.toNat Spn.zero).len else 0)=aV:=⟨_,rfl⟩
  rw[bC]at bm;have a7:E _:=bC;clear bC;go_upto_if 54 with fail
  go_cut [] (λcd=>E (SO w cd v (nu r v d q aV z)))
  case first=>
   by_cases aM:0<q
   ·have ho:=HO.o 0 aM;obtain⟨k,O⟩:∃k:Nat,v.a=k:=⟨v.a.toNat,by have:0<=v.a:=ho.1;omega⟩
    have G:k<m:=by have:v.a<m:=ho.2;omega
    obtain⟨az,off,rfl,_,_,aP⟩:=HF.o ci aW.o.kp k G
    have H:E (SO w (ci.setCell ⟨w.heap.size+1+1,2,none⟩ (hA (r.getD k Spn.zero).len)) v (nu r v d q aV z)):=by
     have:=aW.o.set (AtT.put2 aW.o.st (r.getD k Spn.zero).len);rw[<-a7.o,hD aM,O];exact this
    have J:=(aW.o.fr 2).2;have bB:=aW.o.st.c2;have cM:0<=(k:Int):=xaa;have ce:(k:Int)<m:=xaa;have h:0<(q:Int):=xaa;rw[O]at c2;generalize (r.getD k Spn.zero).len=y at aP H;clear O HO ho aM aW a7;go_wp2_with fail;go_meet;exact H
   have h:¬0<(q:Int):=xaa;have e:aV=0:=by rw[<-a7.o,hC aM]
   clear aM;go_wp2_with fail;go_meet;rw[e];exact aW
  case rest=>
  obtain⟨s,au⟩:∃s,nu r v d q aV z=s:=⟨_,rfl⟩
  rw[au]at hcut bm;obtain⟨b9,ae,a9,ai,e4,b7,aS,aN⟩:=hcut.o.st;obtain⟨b0,a1,U,a3,a4,bN,cz,b3⟩:=hcut.o.rs;have Y:=λo=>(hcut.o.fr o).1;have ec:E _:=Kf wc (w.heap.size+1) 0 _ s hcut.o.rs;have x:E (Kept 0 0 w (GI wc (w.heap.size+1) 0 s)):=Chg.kept hcut.o.kp ((DL wc (w.heap.size+1) 0 s).chg1 (S:=λb=>b=w.heap.size+1) rfl) λi e=>by omega
  clear aW au c0 c1 c2 c3 c4 c5 hcut;go_wp2_with fail;obtain⟨bD,aQ,a8,bi,bk,K,Z,b8⟩:=ec.o;simp only[Nat.zero_add]at bD aQ a8 bi bk K Z b8;exact yaz (v:=s.agg) (by simp[results,results28,go_sem,bD,aQ,a8,bi,bk,K,Z,b8]) rfl ⟨by rw[bm.o],x.o⟩
end
section
variable{I:World}{S:Nat->Prop}{g H cap J:Nat}{pre l U:List Spn}
theorem kT{P}(w m x p h b o e r a f u size cs)
  (aB:P.underlying m=some (.slice h)) (au:(P.info? h).map (·.size)=some size) (ad:cs.length=Nat.min f e*size)
  (y:∀j v,cs[j]? =some v->w.cell? (a.add j)=some v) (ah:∀j,j<cs.length->(w.cell? ⟨b,o+j,none⟩).isSome=true) (a5:∀j,j<cs.length->w.frozen? ⟨b,o+j,none⟩=false) (F:∀v∈cs,v.oneCell'=true):
  (Builtin.copy_ #[m,x] p #[.slice (some ⟨b,o,none⟩) e r,.slice (some a) f u]).run P w=.ok (goInt (Nat.min f e)) (w.setCells b o cs):=by
 have af:=run_loadCells_list (P:=P) w a cs y;have bx:=run_storeCells_cells (P:=P) b o cs 0 w (by simpa using ah) (by simpa using a5) F;cases ap:P.info? h with
 |none=>simp[ap]at au
 |some i=>
  have hi:i.size=size:=by simpa[ap] using au
  simp[Builtin.copy_,run_underlying aB,Builtin.lenOf,Builtin.firstCells,sizeOf,typeInfo,ap,hi,<-ad,af,bx]
theorem tV{P}(w t e p z)(ht:P.underlying t=some (.slice e))(aO:∀w,(zeroValue e).run P w=.ok z w)(b o c)
  (bv:∀v∈z.cells.toList,v.oneCell'=true)
  (ah:∀j,j<z.cells.size->(w.cell? ⟨b,o+j,none⟩).isSome=true) (a5:∀j,j<z.cells.size->w.frozen? ⟨b,o+j,none⟩=false):
  (Builtin.clear_ #[t] p #[.slice (some ⟨b,o,none⟩) 1 c]).run P w=.ok (.tuple #[]) (w.setCells b o z.cells.toList):=by
 have f:(Builtin.zeroCells z.cells 1).toList=z.cells.toList:=by
  apply List.ext_getElem
  ·simp[Builtin.zeroCells]
  intro i F N;have h3:i<z.cells.size:=by simpa using N
  simp[Builtin.zeroCells,Nat.mod_eq_of_lt h3,h3]
 have bx:=run_storeCells_cells (P:=P) b o z.cells.toList 0 w (by simpa using ah) (by simpa using a5) bv;simp only[Nat.add_zero]at bx;simp[Builtin.clear_,run_underlying ht,aO,f,bx]
theorem uP(w:World)(a v g):(w.setCell a v).shape? g=w.shape? g:=by
 unfold World.shape? World.setCell;simp only[Array.getElem?_modify];by_cases e:a.block=g
 ·rw[hD e];cases h:w.heap[g]? with
  |none=>rfl
  |some o=>cases o<;>simp;split<;>simp
 rw[hC e]
theorem oy(b):∀(vs:List Value) (o:Nat) (w:World) (g:Nat),(w.setCells b o vs).shape? g=w.shape? g
 |[],_,_,_=>rfl
 |v::r,o,w,g=>by rw[World.setCells,oy b r,uP]
theorem g7{S}(g)(h:S g):∀(vs:List Value) (o:Nat) (w:World),Chg S w (w.setCells g o vs)
 |[],_,w=>(Kept.refl 0 0 w).chg
 |v::r,o,w=>Chg.andThen (fC w g o v h) (g7 g h r (o+1) _)
theorem uQ(b vs o)(w:World)(h:∀j,j<vs.length->(w.cell? ⟨b,o+j,none⟩).isSome=true)(k)(O:(w.cell? ⟨b,k,none⟩).isSome=true):((w.setCells b o vs).cell? ⟨b,k,none⟩).isSome=true:=by
 by_cases aV:o<=k/\k<o+vs.length
 ·have:=World.cell?_setCells_in b vs o w h (k-o) xaa;rw[show o+(k-o)=k by omega]at this;rw[this];rfl
 rw[World.cell?_setCells_out b vs o w ⟨b,k,none⟩ (λ_ _=>by show k<o\/o+vs.length<=k;omega)];exact O
structure FRw(W:World)(g cap:Nat)(l:List Spn):Prop where
 le:l.length<=cap
 cb:cap<=9223372036854775807
 lt:g<W.heap.size
 at_:∀(j:Nat) (u:Value),(fL l)[j]? =some u->W.cell? ⟨g,j,none⟩=some u
 room:∀j,j<cap*2->(W.cell? ⟨g,j,none⟩).isSome=true
 fr:∀o,W.frozen? ⟨g,o,none⟩=false
 shp:W.shape? g=some (67,cap*2)
theorem FRw.keepC{W}(f:FRw W g cap l)(k:Chg S W I)(aK:¬S g):FRw I g cap l:=by
 have e:∀o,I.cell? ⟨g,o,none⟩=W.cell? ⟨g,o,none⟩:=λo=>k.cell (p:=⟨g,o,none⟩) f.lt aK;have a9:∀o,I.frozen? ⟨g,o,none⟩=W.frozen? ⟨g,o,none⟩:=λo=>k.frozen (p:=⟨g,o,none⟩) f.lt aK;exact⟨f.le,f.cb,yak f.lt k.size,λj u h=>by rw[e];exact f.at_ j u h,λj h=>by rw[e];exact f.room j h,λo=>by rw[a9];exact f.fr o,by unfold World.shape?;rw[k.block g f.lt aK];exact f.shp⟩
theorem FRw.core{W}(f:FRw W g cap l)(o q U)(F:U.length<=cap)(N:o+q.length<=cap*2)
  (a7:∀(j:Nat) (u:Value),(fL U)[j]? =some u->(o<=j/\j<o+q.length/\q[j-o]? =some u)\/(¬(o<=j/\j<o+q.length)/\(fL l)[j]? =some u)):FRw (W.setCells g o q) g cap U where
 le:=F
 cb:=f.cb
 lt:=yak f.lt (g7 (S:=λb=>b=g) g rfl q o W).size
 at_:=λj u aB=>by
  rcases a7 j u aB with⟨a,b,c⟩|⟨a,c⟩
  ·have:=World.cell?_setCells_in g q o W (λj hj=>f.room _ xaa) (j-o) xaa
   rw[show o+(j-o)=j by omega]at this
   rw[this]
   rw[yam xaa]at c
   exact c
  ·rw[World.cell?_setCells_out g q o W ⟨g,j,none⟩ (λ_ _=>by show j<o\/o+q.length<=j;omega)]
   exact f.at_ j u c
 room:=λj hj=>uQ g q o W (λj hj=>f.room _ xaa) j (f.room j hj)
 fr:=λo=>by rw[World.frozen?_setCells];exact f.fr o
 shp:=by rw[oy];exact f.shp
theorem FRw.tail{W i}(f:FRw W g cap (pre++i))(e)(h:(pre++e).length<=cap):FRw (W.setCells g (pre.length*2) (fL e)) g cap (pre++e):=by
 refine f.core _ _ _ h ?_ ?_
 ·rw[fd];rw[yal]at h;omega
 intro j u aB;rw[iw]at aB⊢;by_cases hj:j<pre.length*2
 ·exact xdb
 rw[yas (by rw[fd];omega),fd]at aB;have:=(List.getElem?_eq_some_iff.1 aB).1;exact .inl ⟨by omega,by omega,aB⟩
theorem FRw.behind{W}(f:FRw W g cap l)(o q)(F:l.length*2<=o)(N:o+q.length<=cap*2):FRw (W.setCells g o q) g cap l:=
 f.core o q l f.le N λj u aB=>by
  have:=(List.getElem?_eq_some_iff.1 aB).1
  rw[fd]at this
  exact .inr ⟨by omega,aB⟩
theorem FRw.one{W post y}(f:FRw W g cap (pre++y::post))(x):FRw (W.setCells g (pre.length*2) x.cells) g cap (pre++x::post):=by
 have af:x.cells.length=2:=rfl;have bN:y.cells.length=2:=rfl;refine f.core _ _ _ (by have:=f.le;simp only[yal,yaq]at this⊢;exact this) ?_ ?_
 ·have:=f.le;simp only[yal,yaq]at this;rw[af];omega
 intro j u aB;rw[iw]at aB⊢;by_cases hj:j<pre.length*2
 ·exact xdb
 rw[yas (by rw[fd];omega),fd,fL]at aB;by_cases N:j<pre.length*2+2
 ·rw[yat (hN af)]at aB;exact .inl ⟨by omega,hN af,aB⟩
 rw[yas (hN af),af]at aB;refine .inr ⟨hN af,?_⟩;rw[yas (by rw[fd];omega),fd,fL,yas (hN bN),bN];exact aB
theorem FRw.ps{W}(f:FRw W g cap l):PS W g (g+1) (some ⟨g,0,none⟩) l.length l:=
 ⟨rfl,.inr ⟨g,0,rfl,yad,yaf,f.lt,λj hj=>by
  have al:=qz l j 0 hj xaa
  have F:=qz l j 1 hj xaa
  exact⟨by rw[Nat.zero_add];exact f.at_ _ _ (by rw[Nat.add_zero]at al;exact al),by rw[Nat.zero_add];exact f.at_ _ _ F⟩⟩⟩
theorem iH(l):∀v∈fL l,v.oneCell'=true:=by
 induction l with
 |nil=>simp[fL]
 |cons x r G=>
  intro v aO;rw[fL,List.mem_append]at aO;rcases aO with h|h
  ·simp only[Spn.cells,List.mem_cons,List.not_mem_nil,or_false]at h;rcases h with rfl|rfl<;>rfl
  exact G v h
theorem Qv(w)(g cap i j k n:Nat)(l)(f:FRw w g cap l)(ad:l.length=n)(O:n=k+1)(hj:j=i+1)(hi:i<n)(af:n<=2000000):
  Calls prog 112 #[hz g n cap,hA i,hA j] w λe B=>e=.returned (hz g k cap)/\FRw B g cap (l.take i++l.drop j)/\Chg (λb=>b=g) w B:=by
 have Z:=f.le;have R:=f.cb;rw[ad]at Z;obtain⟨q,z⟩:∃q,q=fL (l.drop j):=⟨_,rfl⟩
 have ca:q.length=(n-j)*2:=by rw[z,fd,List.length_drop,ad]
 have x:l=l.take i++l.drop i:=(List.take_append_drop i l).symm
 have r:∀(t:Nat) (u:Value),q[t]? =some u->w.cell? ⟨g,j*2+t,none⟩=some u:=by
  intro t u aB;refine f.at_ _ _ ?_;rw[<-List.take_append_drop j l,iw,yas (by rw[fd,List.length_take];omega),fd,List.length_take,ad,<-z];rw[show j*2+t-min j n*2=t by rw[Nat.min_eq_left xaa];omega];exact aB
 obtain⟨A,a2,y⟩:∃A:Addr,(if cap=j then some (⟨g,0,none⟩:Addr)else some ⟨g,j*2,none⟩)=some A/\E (∀(t:Nat) (u:Value),q[t]? =some u->w.drew.cell? (A.add t)=some u):=by
  by_cases h:cap=j
  ·refine⟨⟨g,0,none⟩,by simp[h],λt u aB=>?_⟩;have al:q.length=0:=by rw[ca];omega
   rw[List.length_eq_zero_iff.1 al]at aB;simp at aB
  refine⟨⟨g,j*2,none⟩,by simp[h],λt u aB=>?_⟩;rw[Addr.add_lit];exact r t u aB
 have ax:E (q.length=(n-j)*2):=ca;have aU:E (∀u∈q,u.oneCell'=true):=by show ∀u∈q,_;rw[z];exact iH _
 have bx:E (∀t,t<q.length->(w.drew.cell? ⟨g,0+i*2+t,none⟩).isSome=true/\w.drew.frozen? ⟨g,0+i*2+t,none⟩=false):=by
  intro t ht;rw[ca]at ht;exact⟨f.room _ xaa,f.fr _⟩
 have o:FRw (w.drew.setCells g (0+i*2) q) g cap (l.take i++l.drop j):=by
  have bG:FRw w.drew g cap (l.take i++l.drop i):=by rw[<-x];exact f.keepC ((eG w).chg (S:=λ_=>False)) (λh=>h)
  have:=bG.tail (l.drop j) (by rw[yal,List.length_take,List.length_drop];omega);rw[List.length_take,Nat.min_eq_left xaa,<-z]at this;rw[Nat.zero_add];exact this
 have C1:Chg (λb=>b=g) w (w.drew.setCells g (0+i*2) q):=Chg.andThen (eG w).chg (g7 (S:=λb=>b=g) g rfl q _ _);obtain⟨az,F⟩:∃az,az=w.drew.setCells g (0+i*2) q:=⟨_,rfl⟩
 rw[<-F]at o C1;have bl:(l.take i++l.drop j).length=k:=by rw[yal,List.length_take,List.length_drop];omega
 obtain⟨bm,bI,cC,bh,bP⟩:=info_parts mo;have m:∀w:World,(zeroValue 67).run prog w=.ok (.agg #[hA 0,hA 0]) w:=λw=>by simp[zeroValue,typeInfo,bI,cC]
 have cG:∀p c,(Builtin.clear_ #[31] p #[.slice (some ⟨g,k*2,none⟩) (n-k) c]).run prog az=.ok (.tuple #[]) (az.setCells g (k*2) [hA 0,hA 0]):=λp c=>by
  rw[show n-k=1 by omega]
  exact tV az _ _ p _ underlying31 m g (k*2) c (by intro v aO;simp[Value.cells]at aO;rcases aO with rfl|rfl<;>rfl) (λt ht=>o.room _ (by have:t<2:=ht;omega)) (λt _=>o.fr _)
 have C:E (FRw (az.setCells g (k*2) [hA 0,hA 0]) g cap (l.take i++l.drop j)):=o.behind _ _ (hN bl) (by show _+2<=_;omega);have Q:E (Chg (λb=>b=g) w (az.setCells g (k*2) [hA 0,hA 0])):=Chg.andThen C1 (g7 (S:=λb=>b=g) g rfl _ _ _);have ai:E (az=w.drew.setCells g (0+i*2) q):=F;have G:i<=cap:=xaa;have cH:j<=cap:=xaa;have eL:¬((i:Int)=j):=xaa;have am:j<=n:=xaa;have K:i<=j:=xaa;have aD:i+(n-j)=k:=xaa;have bK:k<=n:=xaa;have s:¬(cap=k):=xaa;have aa:n<=cap:=Z;clear F o C1 x r z ca bl f m ad hj O;go_enter func112,ntmps112;go_wp2_with fail;go_region_law (refine step_append_room rfl (.tmp 22) (.tmp 25) 31 rfl 67 bm 2 underlying31 bI bh g 0 i cap (by simp[Act.eval,Act.put]) A (n-j) (cap-j) q (by simp[Act.eval,Act.put]) ax.o y.o aU.o xaa bx.o ?_;rw[<-ai.o]);go_wp2;go_ret;exact⟨rfl,C.o,Q.o⟩
structure XB(W:World)(X:Nat)(x:Spn):Prop where
 at_:∀(j:Nat) (u:Value),x.cells[j]? =some u->W.cell? ⟨X,j,none⟩=some u
 fr:∀o,W.frozen? ⟨X,o,none⟩=false
 shp:∃t k,W.shape? X=some (t,k)
 lt:X<W.heap.size
theorem xC(w:World)(cs l cap)(af:l.length<=cap)(ah:cap<=9223372036854775807)(au:cs.size=cap*2)(a7:∀(j:Nat) (u:Value),(fL l)[j]? =some u->cs[j]? =some u):
  FRw (w.alloc (.cells cs 67)) w.heap.size cap l where
 le:=af
 cb:=ah
 lt:=by simp
 at_:=λj u aB=>by rw[World.cell?_alloc_at cs _ w.heap.size j rfl];exact a7 j u aB
 room:=λj hj=>by rw[World.cell?_alloc_at cs _ w.heap.size j rfl,Array.getElem?_eq_getElem xaa];rfl
 fr:=λo=>World.frozen?_alloc_at cs _ w.heap.size o rfl
 shp:=by
  have e:(w.alloc (.cells cs 67)).heap[w.heap.size]? =some (.cells cs 67):=by
   unfold World.alloc;exact Array.getElem?_push_size
  unfold World.shape?;rw[e];show some (_,cs.size)=_;rw[au]
theorem kL(x):fL [x]=x.cells:=vu x
theorem xD(k):(Builtin.zeroCells (Value.agg #[hA 0,hA 0]).cells k).size=k*2:=by simp[Builtin.zeroCells,Value.cells]
theorem xE(w g cap n X l x)(f:FRw w g cap l)(ad:l.length=n)(an:XB w X x)(aD:n+1<=cap)(p):
  ∃B,(Builtin.append_ #[31,31] p #[hz g n cap,hz X 1 1]).run prog w=.ok (hz g (n+1) cap) B/\FRw B g cap (l++[x])/\Chg (λb=>b=g) w B:=by
 obtain⟨bm,bI,cC,bh,bP⟩:=info_parts mo
 have h:=run_append_room_cells (P:=prog) w 31 p 67 bm underlying31 bI g 0 n cap ⟨X,0,none⟩ 1 1 x.cells (hO bh) (λj u aB=>by rw[Addr.add_lit,Nat.zero_add];exact an.at_ j u aB) (by intro u aB;rw[<-kL]at aB;exact iH _ u aB) aD
  (λj hj=>f.room _ (by have:j<2:=hj;rw[bh];omega)) (λj _=>f.fr _)
 refine⟨_,h,?_,g7 (S:=λb=>b=g) g rfl _ _ _⟩;have bG:FRw w g cap (l++[]):=by rw[List.append_nil];exact f
 have:=bG.tail [x] (by rw[yal];show _+1<=_;omega);rw[ad,kL]at this;rw[bh,Nat.zero_add];exact this
theorem xF(w g cap n X l x)(f:FRw w g cap l)(ad:l.length=n)(an:XB w X x)(aD:cap<n+1)(hb:n<=2000000)(p):
  ∃cap' B,(Builtin.append_ #[31,31] p #[hz g n cap,hz X 1 1]).run prog w=.ok (hz w.heap.size (n+1) cap') B/\FRw B w.heap.size cap' (l++[x])/\Chg (λb=>b=g) w B:=by
 obtain⟨bm,bI,cC,bh,bP⟩:=info_parts mo
 have BB:(Builtin.firstCells bm.size n (hz g n cap)).run prog w.drew=.ok (fL l).toArray w.drew:=
  run_firstCells_some w.drew _ n ⟨g,0,none⟩ n cap (fL l) (by rw[fd,ad,bh]) (λj u aB=>by rw[Addr.add_lit,Nat.zero_add];exact f.at_ j u aB)
 have y:Src prog bm.size 31 (hz X 1 1) 1 x.cells w:=Src.ofSlice w underlying31 ⟨X,0,none⟩ 1 1 x.cells (hO bh) (λj u aB=>by rw[Addr.add_lit,Nat.zero_add];exact an.at_ j u aB) (by intro u aB;rw[<-kL]at aB;exact iH _ u aB);have h:=run_append_grow_src (P:=prog) w 31 31 p 67 bm _ underlying31 bI cC (some ⟨g,0,none⟩) n cap (fL l) BB _ 1 x.cells y aD xaa (growslice_fits aD (hN bP));have bi:=grownCap_ge w (n+1) cap 67;have ca:=grownCap_le_maxLen w (n+1) cap 67 (by unfold maxLen;omega);unfold maxLen at ca;refine⟨_,_,h,?_,?_⟩
 ·refine xC w.drew _ (l++[x]) _ (by rw[yal,ad];exact bi) xaa ?_ ?_
  ·rw[Array.size_append,xD,List.size_toArray,yal,fd,ad];show n*2+2+_=_;omega
  intro j u aB;have hj:=(List.getElem?_eq_some_iff.1 aB).1;rw[iw,kL]at aB hj;rw[Array.getElem?_append_left (by rw[List.size_toArray];exact hj),List.getElem?_toArray];exact aB
 exact Chg.andThen (eG w).chg (ez 0 0 w.drew _).chg
theorem Ko(w g cap n X l x)(f:FRw w g cap l)(ad:l.length=n)(an:XB w X x)(hb:n<=2000000):
  Calls prog 114 #[hz g n cap,hA n,hz X 1 1] w λe B=>∃aq cap',e=.returned (hz aq (n+1) cap')/\FRw B aq cap' (l++[x])/\Chg (λb=>b=g) w B/\(aq=g\/aq=w.heap.size):=by
 have aa:=f.le;have R:=f.cb;rw[ad]at aa
 obtain⟨aq,cap',B,p,F,N,h3⟩:∃aq cap' B,(Builtin.append_ #[31,31] 31 #[hz g n cap,hz X 1 1]).run prog w=.ok (hz aq (n+1) cap') B/\FRw B aq cap' (l++[x])/\Chg (λb=>b=g) w B/\(aq=g\/aq=w.heap.size):=by
  by_cases aD:n+1<=cap
  ·obtain⟨B,a,b,c⟩:=xE w g cap n X l x f ad an aD 31;exact⟨g,cap,B,a,b,c,.inl rfl⟩
  obtain⟨cap',B,a,b,c⟩:=xF w g cap n X l x f ad an xaa hb 31;exact⟨w.heap.size,cap',B,a,b,c,.inr rfl⟩
 have H1:E _:=F;have H2:E _:=N;have H3:E _:=h3;clear F N h3 f an ad;go_enter func114,ntmps114;go_wp2_with (at_builtin;refine Lib.wpList_append_run _ rfl _ _ _ _ rfl _ _ rfl rfl _ _ p ?_)
 all_goals
  go_ret
  exact⟨aq,cap',rfl,H1.o,H2.o,H3.o⟩
theorem D4(w g cap i n m X l x)(f:FRw w g cap l)(ad:l.length=n)(an:XB w X x)(s:X≠g)(hb:n<=2000000)(am:m=1)(hi:i<n)(aD:n+m<=cap):
  Calls prog 114 #[hz g n cap,hA i,hz X m 1] w λe B=>e=.returned (hz g (n+m) cap)/\FRw B g cap (l.take i++x::l.drop i)/\Chg (λb=>b=g) w B:=by
 have R:=f.cb;obtain⟨bm,bI,cC,bh,bP⟩:=info_parts mo;have bX:(prog.info? 67).map (·.size)=some 2:=by rw[bI];simp[bh]
 obtain⟨aa,a0,P⟩:=an.shp
 have eT:∀bf cb,(callFunc 130 #[hz X m 1,.slice (some ⟨g,(i+m)*2,none⟩) bf cb]).run prog w=.ok (.value (.bool false)) w:=λbf cb=>by
  rw[run_callFunc_extern func130 (by kernel_rfl) (by kernel_rfl) (by kernel_rfl) (e:=Extern.SlicesOverlaps.overlaps #[31,31] #[4]) (by kernel_rfl),
   Lib.run_overlaps_apart w 31 4 67 underlying31 2 (λw=>by simp[sizeOf,typeInfo,bI,bh]) ⟨X,0,none⟩ ⟨g,(i+m)*2,none⟩ m 1 bf cb s aa 67 a0 (cap*2) P f.shp xaa (an.fr 0) (an.fr a0)]
  rfl
 have v:(l.take (i+1)).length=i+1:=by rw[List.length_take];omega
 have f1:FRw w.drew g cap (l.take (i+1)++l.drop (i+1)):=by rw[List.take_append_drop];exact f.keepC ((eG w).chg (S:=λ_=>False)) (λh=>h)
 have o:=f1.tail (l.drop i) (by rw[yal,v,List.length_drop];omega);rw[v,show(i+1)*2=(i+m)*2 by rw[am]]at o;have G:l.take (i+1)=l.take i++[l[i]'xaa]:=(List.take_append_getElem xaa).symm;rw[G,List.append_assoc]at o;have C:=FRw.one (pre:=l.take i) (post:=l.drop i) (y:=l[i]'xaa) o x;rw[List.length_take,Nat.min_eq_left xaa]at C
 have z:∀p q r,(Builtin.copy_ #[31,31] p #[.slice (some ⟨g,(i+m)*2,none⟩) (n+m-(i+m)) q,.slice (some ⟨g,i*2,none⟩) (n+m-i) r]).run prog w.drew=.ok (goInt (Nat.min (n+m-i) (n+m-(i+m)))) (w.drew.setCells g ((i+m)*2) (fL (l.drop i))):=λp q r=>
  kT w.drew _ _ p 67 g ((i+m)*2) (n+m-(i+m)) q ⟨g,i*2,none⟩ (n+m-i) r 2 (fL (l.drop i)) underlying31 bX
   (by rw[fd,List.length_drop,ad];congr 1;simp only[Nat.min_def];split<;>omega)
   (λj u aB=>by
    rw[Addr.add_lit]
    refine f.at_ _ _ ?_
    rw[<-List.take_append_drop i l,iw,yas (by rw[fd,List.length_take];omega),fd,List.length_take,ad]
    rw[show i*2+j-min i n*2=j by rw[Nat.min_eq_left xaa];omega]
    exact aB)
   (λj hj=>f.room _ (by rw[fd,List.length_drop,ad]at hj;omega)) (λj _=>f.fr _) (iH _)
 obtain⟨az,F⟩:∃az,az=w.drew.setCells g ((i+m)*2) (fL (l.drop i)):=⟨_,rfl⟩
 have C1:Chg (λb=>b=g) w az:=by rw[F];exact Chg.andThen (eG w).chg (g7 (S:=λb=>b=g) g rfl _ _ _)
 rw[<-F]at z o C
 have O:∀(W:World),(∀y,W.cell? y=az.cell? y)->(∀y,W.frozen? y=az.frozen? y)->∀p q,(Builtin.copy_ #[31,31] p #[.slice (some ⟨g,i*2,none⟩) (n+m-i) q,hz X m 1]).run prog W=.ok (goInt (Nat.min m (n+m-i))) (W.setCells g (i*2) x.cells):=λW K Z p q=>
  kT W _ _ p 67 g (i*2) (n+m-i) q ⟨X,0,none⟩ m 1 2 x.cells underlying31 bX
   (by show 2=_;rw[am];simp only[Nat.min_def];split<;>omega)
   (λj u aB=>by
    rw[Addr.add_lit,K,Nat.zero_add,C1.cell (p:=⟨X,j,none⟩) an.lt (by exact s)]
    exact an.at_ j u aB)
   (λj hj=>by rw[K];exact o.room _ (by have:j<2:=hj;omega)) (λj hj=>by rw[Z];exact o.fr _) (by intro u aB;rw[<-kL]at aB;exact iH _ u aB)
 have H2:E _:=C;have Q:E (Chg (λb=>b=g) w (az.setCells g (i*2) x.cells)):=Chg.andThen C1 (g7 (S:=λb=>b=g) g rfl _ _ _);have b3:¬((m:Int)=0):=xaa;have b0:¬((i:Int)=n):=xaa;have bA:IntKind.i64.wrap ((i:Int)+m)=(i:Int)+m:=by rw[IntKind.wrap_i64];omega
 have ao:0<=(i:Int)+m:=xaa;have aV:i<=n:=xaa;have cQ:((i:Int)+m).toNat=i+m:=xaa;have Y:¬(cap=i+m):=xaa;have aw:(i:Int)<=n+(m:Int):=xaa;have N:¬(cap=i):=xaa;clear f an f1 o C C1 G v F am ad;go_enter func114,ntmps114;go_wp2_with (simp only[eT]);go_region_law (refine step_copy_runI rfl (.tmp 73) (.tmp 76) 31 31 rfl _ _ (by simp[Act.eval,Act.put]) (by simp[Act.eval,Act.put]) (z _ _ _) ?_);go_wp2_with (at_builtin;refine wpList_copy_runI _ rfl _ _ 31 31 rfl _ _ rfl rfl (O _ (λ_=>rfl) (λ_=>rfl) _ _) ?_);go_ret;exact⟨rfl,H2.o,Q.o⟩
theorem GZ(w g cap i n m X l x)(f:FRw w g cap l)(ad:l.length=n)(an:XB w X x)(hb:n<=2000000)(am:m=1)(hi:i<n)(aD:cap<n+m):
  Calls prog 114 #[hz g n cap,hA i,hz X m 1] w λe B=>∃cap',e=.returned (hz w.heap.size (n+m) cap')/\FRw B w.heap.size cap' (l.take i++x::l.drop i)/\Chg (λb=>b=g) w B:=by
 have R:=f.cb;have aa:=f.le;rw[ad]at aa;obtain⟨bm,bI,cC,bh,bP⟩:=info_parts mo;have bX:(prog.info? 67).map (·.size)=some 2:=by rw[bI];simp[bh]
 have aG:(l.take i).length=i:=by rw[List.length_take];omega
 have BB:(Builtin.firstCells bm.size i (hz g i cap)).run prog w.drew=.ok (fL (l.take i)).toArray w.drew:=
  run_firstCells_some w.drew _ i ⟨g,0,none⟩ i cap (fL (l.take i)) (by rw[fd,aG,bh]) (λj u aB=>by
   rw[Addr.add_lit,Nat.zero_add]
   refine f.at_ j u ?_
   have hj:=(List.getElem?_eq_some_iff.1 aB).1
   rw[<-List.take_append_drop i l,iw,yat hj]
   exact aB)
 have ex:i+(n+m-i)=n+m:=xaa;have a9:(n:Int)+m-(i:Int)=((n+m-i:Nat):Int):=xaa;have z:=Lib.run_append_grow_zeros (P:=prog) w 31 3 31 67 bm _ .i64 .i64 underlying31 underlying3 bI cC (some ⟨g,0,none⟩) i cap (fL (l.take i)) BB (n+m-i) xaa xaa xaa xaa (hN bP) (by rw[bP,ex];exact growslice_fits aD xaa);rw[ex]at z;have bi:=grownCap_ge w (n+m) cap 67;have ca:=grownCap_le_maxLen w (n+m) cap 67 (by unfold maxLen;omega);unfold maxLen at ca;generalize grownCap w (n+m) cap 67=G at z bi ca;have ak:G<=9223372036854775807:=xaa
 have s:FRw (w.drew.alloc (.cells ((fL (l.take i)).toArray++Builtin.zeroCells (Value.agg #[hA 0,hA 0]).cells (n+m-i)++Builtin.zeroCells (Value.agg #[hA 0,hA 0]).cells (G-(n+m))) 67)) w.heap.size G (l.take i++[]):=by
  rw[List.append_nil];refine xC w.drew _ (l.take i) G xaa ak ?_ ?_
  ·rw[Array.size_append,Array.size_append,xD,xD,List.size_toArray,fd,aG];omega
  intro j u aB;have hj:=(List.getElem?_eq_some_iff.1 aB).1;rw[Array.append_assoc,Array.getElem?_append_left (by rw[List.size_toArray];exact hj),List.getElem?_toArray];exact aB
 have C0:Chg (λb=>b=g) w (w.drew.alloc (.cells ((fL (l.take i)).toArray++Builtin.zeroCells (Value.agg #[hA 0,hA 0]).cells (n+m-i)++Builtin.zeroCells (Value.agg #[hA 0,hA 0]).cells (G-(n+m))) 67)):=Chg.andThen (eG w).chg (ez 0 0 w.drew _).chg;have F:Chg (λ_=>False) w (w.drew.alloc (.cells ((fL (l.take i)).toArray++Builtin.zeroCells (Value.agg #[hA 0,hA 0]).cells (n+m-i)++Builtin.zeroCells (Value.agg #[hA 0,hA 0]).cells (G-(n+m))) 67)):=Chg.andThen (eG w).chg (ez 0 0 w.drew _).chg;generalize w.drew.alloc (.cells ((fL (l.take i)).toArray++Builtin.zeroCells (Value.agg #[hA 0,hA 0]).cells (n+m-i)++Builtin.zeroCells (Value.agg #[hA 0,hA 0]).cells (G-(n+m))) 67)=az at z s C0 F;rw[<-a9]at z;have ah:g<w.heap.size:=f.lt;have ae:X<w.heap.size:=an.lt;obtain⟨Y,ab⟩:∃Y,Y=w.heap.size:=⟨_,rfl⟩
 have ai:w.heap.size<=Y:=xaa;rw[<-ab]at z s ah ae⊢;clear ab;have o:=s.tail [x] (by rw[yal,aG];show i+1<=G;omega);rw[aG,kL]at o;have N:FRw (az.setCells Y (i*2) x.cells) Y G ((l.take i++[x])++[]):=by rw[List.append_nil];exact o
 have C:=N.tail (l.drop i) (by rw[yal,yal,aG,List.length_drop];show i+1+_<=_;omega);rw[yal,aG,show(i+[x].length)*2=(i+m)*2 by rw[am];rfl,List.append_assoc]at C
 have ag:∀p q,(Builtin.copy_ #[31,31] p #[.slice (some ⟨Y,i*2,none⟩) (n+m-i) q,hz X m 1]).run prog az=.ok (goInt (Nat.min m (n+m-i))) (az.setCells Y (i*2) x.cells):=λp q=>
  kT az _ _ p 67 Y (i*2) (n+m-i) q ⟨X,0,none⟩ m 1 2 x.cells underlying31 bX
   (by show 2=_;rw[am];simp only[Nat.min_def];split<;>omega)
   (λj u aB=>by
    rw[Addr.add_lit,Nat.zero_add,F.cell (p:=⟨X,j,none⟩) an.lt (λh=>h)]
    exact an.at_ j u aB)
   (λj hj=>s.room _ (by have:j<2:=hj;omega)) (λj hj=>s.fr _) (by intro u aB;rw[<-kL]at aB;exact iH _ u aB)
 obtain⟨bS,v⟩:∃bS,bS=az.setCells Y (i*2) x.cells:=⟨_,rfl⟩
 have af:∀(j:Nat) (u:Value),(fL l)[j]? =some u->bS.cell? ⟨g,j,none⟩=some u:=λj u aB=>by
  rw[v,(g7 (S:=λb=>b=Y) Y rfl x.cells (i*2) az).cell (p:=⟨g,j,none⟩) (yak f.lt F.size) (by show ¬(g=Y);omega),F.cell (p:=⟨g,j,none⟩) f.lt (λh=>h)]
  exact f.at_ j u aB
 rw[<-v]at ag o N C
 have aj:∀(W:World),(∀y,W.cell? y=bS.cell? y)->(∀y,W.frozen? y=bS.frozen? y)->∀p q r,(Builtin.copy_ #[31,31] p #[.slice (some ⟨Y,(i+m)*2,none⟩) (n+m-(i+m)) q,.slice (some ⟨g,i*2,none⟩) (n-i) r]).run prog W=.ok (goInt (Nat.min (n-i) (n+m-(i+m)))) (W.setCells Y ((i+m)*2) (fL (l.drop i))):=λW K Z p q r=>
  kT W _ _ p 67 Y ((i+m)*2) (n+m-(i+m)) q ⟨g,i*2,none⟩ (n-i) r 2 (fL (l.drop i)) underlying31 bX
   (by rw[fd,List.length_drop,ad];congr 1;simp only[Nat.min_def];split<;>omega)
   (λj u aB=>by
    rw[Addr.add_lit,K]
    refine af _ _ ?_
    rw[<-List.take_append_drop i l,iw,yas (by rw[fd,List.length_take];omega),fd,List.length_take,ad]
    rw[show i*2+j-min i n*2=j by rw[Nat.min_eq_left xaa];omega]
    exact aB)
   (λj hj=>by rw[K];exact o.room _ (by rw[fd,List.length_drop,ad]at hj;omega)) (λj hj=>by rw[Z];exact o.fr _) (iH _)
 have Q:Chg (λb=>b=g) w bS:=by
  rw[v];exact Chg.new C0 (g7 (S:=λb=>b=Y) Y rfl _ _ _) (λk O e=>by omega)
 have H3:E (FRw (bS.drew.setCells Y ((i+m)*2) (fL (l.drop i))) Y G (l.take i++x::l.drop i)):=by
  have:=C.keepC ((eG _).chg (S:=λ_=>False)) (λh=>h);rw[drew_setCells]at this;exact this
 have P:E (Chg (λb=>b=g) w (bS.drew.setCells Y ((i+m)*2) (fL (l.drop i)))):=Chg.new (Chg.andThen Q (eG bS).chg) (g7 (S:=λb=>b=Y) Y rfl _ _ _) (λk O e=>by omega);have b3:¬((m:Int)=0):=xaa;have b0:¬((i:Int)=n):=xaa;have al:(cap:Int)<n+(m:Int):=xaa;have bA:IntKind.i64.wrap ((i:Int)+m)=(i:Int)+m:=by rw[IntKind.wrap_i64];omega
 have ao:0<=(i:Int)+m:=xaa;have aV:i<=n:=xaa;have cQ:((i:Int)+m).toNat=i+m:=xaa;have aw:(i:Int)<=n:=xaa;have ap:¬(G=i):=xaa;have aq:¬(G=i+m):=xaa;have av:¬(cap=i):=xaa;clear f an s o N C C0 F Q aG v am ad BB af ex a9 ai ah ae;go_enter func114,ntmps114
 go_wp2_with (first
  |(at_builtin;refine Lib.wpList_append_run _ rfl _ _ _ _ rfl _ _ rfl rfl _ _ z ?_)
  |(at_builtin;refine wpList_copy_runI _ rfl _ _ 31 31 rfl _ _ rfl rfl (ag _ _) ?_))
 go_region_law (refine step_copy_runI rfl (.tmp 50) (.tmp 53) 31 31 rfl (.slice (some ⟨Y,(i+m)*2,none⟩) (n+m-(i+m)) (G-(i+m))) (.slice (some ⟨g,i*2,none⟩) (n-i) (cap-i)) (by simp[Act.eval,Act.put]) (by simp[Act.eval,Act.put]) (aj bS.drew (λ_=>rfl) (λ_=>rfl) 3 (G-(i+m)) (cap-i)) ?_);go_wp2;go_ret;exact⟨G,rfl,H3.o,P.o⟩
theorem Qw(w g cap i n X l x)(f:FRw w g cap l)(ad:l.length=n)(an:XB w X x)(s:X≠g)(hb:n<=2000000)(hi:i<=n):
  Calls prog 114 #[hz g n cap,hA i,hz X 1 1] w λe B=>∃aq cap',e=.returned (hz aq (n+1) cap')/\FRw B aq cap' (l.take i++x::l.drop i)/\Chg (λb=>b=g) w B/\(aq=g\/aq=w.heap.size):=by
 by_cases e:i=n
 ·subst e;refine yaj (Ko w g cap i X l x f ad an hb) ?_;rintro e B ⟨aq,cap',F,N,h3,a6⟩;refine⟨aq,cap',F,?_,h3,a6⟩;rw[<-ad,List.take_length,List.drop_length];exact N
 by_cases aD:n+1<=cap
 ·refine yaj (D4 w g cap i n 1 X l x f ad an s hb rfl xaa aD) ?_;rintro e B ⟨F,N,h3⟩;exact⟨g,cap,F,N,h3,.inl rfl⟩
 refine yaj (GZ w g cap i n 1 X l x f ad an hb rfl xaa xaa) ?_;rintro e B ⟨cap',F,N,h3⟩;exact⟨_,cap',F,N,h3,.inr rfl⟩
structure FrP(W:World)(R g cap:Nat)(l:List Spn):Prop where
 c0:W.cell? ⟨R,0,none⟩=some (.slice (some ⟨g,0,none⟩) l.length cap)
 c1:W.cell? ⟨R,1,none⟩=some (.func (.func 85) #[] #[])
 fr:W.frozen? ⟨R,0,none⟩=false
 row:FRw W g cap l
 ne:R≠g
 lt:R<W.heap.size
theorem FrP.keepC{W}(f:FrP W H g cap l)(k:Chg S W I)(F:¬S H)(N:¬S g):FrP I H g cap l:=
 ⟨by rw[k.cell (p:=⟨H,0,none⟩) f.lt F];exact f.c0,by rw[k.cell (p:=⟨H,1,none⟩) f.lt F];exact f.c1,by rw[k.frozen (p:=⟨H,0,none⟩) f.lt F];exact f.fr,f.row.keepC k N,f.ne,yak f.lt k.size⟩
theorem FrP.put{W aq cap'}(f:FrP W H g cap l)(k:Chg (λb=>b=g) W I)(r:FRw I aq cap' U)(aJ:aq=g\/W.heap.size<=aq):FrP (I.setCell ⟨H,0,none⟩ (hz aq U.length cap')) H aq cap' U:=by
 have bL:H≠aq:=by
  rcases aJ with e|e
  ·rw[e];exact f.ne
  have:=f.lt;omega
 have b9:I.cell? ⟨H,0,none⟩=_:=(k.cell (p:=⟨H,0,none⟩) f.lt (by exact f.ne)).trans f.c0;have ae:I.cell? ⟨H,1,none⟩=_:=(k.cell (p:=⟨H,1,none⟩) f.lt (by exact f.ne)).trans f.c1;have a9:I.frozen? ⟨H,0,none⟩=_:=(k.frozen (p:=⟨H,0,none⟩) f.lt (by exact f.ne)).trans f.fr;exact⟨fy _ _ _ _ _ b9,by rw[eQ _ _ _ _ _ _ (.inr xaa)];exact ae,by simp[a9],r.keepC (fC (S:=λb=>b=H) I H 0 _ rfl) (λe=>bL e.symm),bL,by simpa using yak f.lt k.size⟩
theorem m8(w:World)(x):XB (w.alloc x.box) w.heap.size x where
 at_:=λj u aB=>by
  rw[World.cell?_alloc_at _ _ w.heap.size j rfl]
  have hj:=(List.getElem?_eq_some_iff.1 aB).1
  have aT:j<2:=hj
  rcases (by omega:j=0\/j=1) with rfl|rfl
  ·exact aB
  ·exact aB
 fr:=λo=>World.frozen?_alloc_at _ _ w.heap.size o rfl
 shp:=by
  have e:(w.alloc x.box).heap[w.heap.size]? =some x.box:=by
   unfold World.alloc;exact Array.getElem?_push_size
  refine⟨67,2,?_⟩;unfold World.shape?;rw[e]
  rfl
 lt:=by simp
theorem Ck(w H g cap l x)(f:FrP w H g cap l)(au:RunsF 0 l)(hb:l.length<=1000000):
  Calls prog 91 #[hy H,x.agg] w λe B=>∃(i aq cap':Nat),e=.returned (hA i)/\LbS l x.off i/\FrP B H aq cap' (l.take i++x::l.drop i)/\Chg (λb=>b=H\/b=g) w B/\(aq=g\/w.heap.size<=aq):=by
 have bh:=ez 0 0 w x.box;have HF:E _:=f.keepC (bh.chg (S:=λ_=>False)) (λh=>h) (λh=>h)
 have ar:E (AtP (w.alloc x.box) w.heap.size 0 x):=by
  have:=m8 w x;exact⟨this.at_ 0 _ rfl,this.at_ 1 _ rfl⟩
 have HK:E (Chg (λb=>b=H\/b=g) w (w.alloc x.box)):=bh.chg;have b2:E (w.heap.size<(w.alloc x.box).heap.size/\H<w.heap.size/\g<w.heap.size):=⟨by simp,f.lt,f.row.lt⟩
 have ao:E _:=au;clear f au bh;go_enter func91,ntmps91;go_upto_region 1 with fail;generalize w.alloc x.box=aA at HF ar HK b2⊢;obtain⟨X,bL⟩:∃X,X=w.heap.size:=⟨_,rfl⟩
 rw[<-bL]at ar b2⊢;have aw:E _:=bL;clear bL;obtain⟨bz,bo⟩:=ar.o;have ba:=HF.o.c0;have aP:=HF.o.c1;obtain⟨n,ad⟩:∃n,n=l.length:=⟨_,rfl⟩
 rw[<-ad]at ba hb;have bm:E _:=ad.symm;clear ad;have HC:E (∀W,_):=λW (h:PS W g (g+1) (some ⟨g,0,none⟩) n l)=>Qu W g (g+1) (some ⟨g,0,none⟩) n cap l x h hb ao.o
 go_region_held3 (λB=>B.cell? ⟨H,0,none⟩=some (hz g n cap)/\B.cell? ⟨H,1,none⟩=some (.func (.func 85) #[] #[])/\B.cell? ⟨X,0,none⟩=some (hA x.off)/\B.cell? ⟨X,1,none⟩=some (hA x.len)) (go_keep)
  (first|(go_at_call 113;refine yaj (HC.o _ (by rw[<-bm.o];exact(HF.o.row.keepC ((eG aA).chg (S:=λ_=>False)) (λh=>h)).ps)) ?_;rintro e ag ⟨i,b,rfl,bf,u⟩;have ak:=(eG aA).trans u;have bn:ag.cell? ⟨H,0,none⟩=some (hz g n cap):=(by rw[ak.cell (p:=⟨H,0,none⟩) HF.o.lt xaa];exact ba);have aX:ag.cell? ⟨H,1,none⟩=some (.func (.func 85) #[] #[]):=(by rw[ak.cell (p:=⟨H,1,none⟩) HF.o.lt xaa];exact aP);have bb:ag.cell? ⟨X,0,none⟩=some (hA x.off):=(by rw[ak.cell (p:=⟨X,0,none⟩) b2.o.1 xaa];exact bz);have co:ag.cell? ⟨X,1,none⟩=some (hA x.len):=(by rw[ak.cell (p:=⟨X,1,none⟩) b2.o.1 xaa];exact bo)))
 all_goals
  have K:=HF.o.lt
  have bU:E _:=HF.o.keepC (ak.chg (S:=λ_=>False)) (λh=>h) (λh=>h)
  have bB:E _:=Chg.andThen HK.o ak.chg
  have HL:E _:=bf
  have az:E (X<ag.heap.size/\H<X/\g<X/\w.heap.size<=ag.heap.size):=⟨yak b2.o.1 ak.size,b2.o.2.1,b2.o.2.2,by have:=b2.o;have:=aw.o;have:=ak.size;omega⟩
  have cc:E (i<=n):=by have:=bf.le;rw[bm.o]at this;exact this
  have bG:=bU.o.fr
  have aR:Kept 0 0 ag (ag.alloc x.box).drew:=(ez 0 0 ag x.box).trans (eG _)
  have ab:E _:=bU.o.row.keepC (aR.chg (S:=λ_=>False)) (λh=>h)
  have Z:E (XB (ag.alloc x.box).drew ag.heap.size x):=by
   have h:=m8 ag x
   exact⟨h.at_,h.fr,h.shp,h.lt⟩
  have m:E (ag.heap.size≠g):=by have:=bU.o.row.lt;show _≠_;omega
  have j:E _:=bU.o.keepC (aR.chg (S:=λ_=>False)) (λh=>h) (λh=>h)
  clear ba aP bz bo aX ak u HF HK ar b2 bf HC K aR
  go_wp2_with fail
  have ax:=bU.o.lt
  have o:=az.o.1
  have HR0:E (∀aF,Chg (λb=>b=g) (ag.alloc x.box).drew aF->aF.cell? ⟨H,0,none⟩=some (hz g n cap)/\aF.frozen? ⟨H,0,none⟩=false):=λaF c3=>by
   rw[<-bm.o]
   exact⟨(c3.cell (p:=⟨H,0,none⟩) j.o.lt j.o.ne).trans j.o.c0,(c3.frozen (p:=⟨H,0,none⟩) j.o.lt j.o.ne).trans j.o.fr⟩
  first|(go_region_with (go_at_call 114;refine yaj (Qw (ag.alloc x.box).drew g cap i n ag.heap.size l x ab.o bm.o Z.o m.o xaa cc.o) ?_;rintro e aF ⟨aq,cap',rfl,ch,c3,ai⟩;obtain⟨bD,aQ⟩:=HR0.o aF c3))|fail
  all_goals
   have af:(l.take i++x::l.drop i).length=n+1:=by
    have F:=cc.o
    have N:=bm.o
    rw[yal,yaq,List.length_take,List.length_drop]
    omega
   have R1:E (FrP (aF.setCell ⟨H,0,none⟩ (hz aq (n+1) cap')) H aq cap' (l.take i++x::l.drop i)):=by
    have h:=j.o.put c3 ch (ai.imp id (λe=>Nat.le_of_eq e.symm))
    rw[af]at h
    exact h
   have R2:E (Chg (λb=>b=H\/b=g) w (aF.setCell ⟨H,0,none⟩ (hz aq (n+1) cap'))):=Chg.andThen bB.o (Chg.andThen ((ez 0 0 ag x.box).trans (eG _)).chg (Chg.andThen (c3.mono λb _ h=>.inr h) (fC aF H 0 _ (.inl rfl))))
   have R3:E (aq=g\/w.heap.size<=aq):=ai.imp id (λe=>by rw[e];show _<=(ag.alloc x.box).heap.size;have:=az.o.2.2.2;simp;omega)
   clear af bD aQ c3 ch ai
   go_wp2_with fail
   go_ret
   exact⟨i,aq,cap',rfl,HL.o,R1.o,R2.o,R3.o⟩
abbrev iP:Obj:=.cells #[.int .i64 0,.int .i64 0] 67
abbrev lh(s:Spn):Obj:=.cells #[.int .i64 s.off,.int .i64 s.len] 67
theorem Cm(w H g cap i l)(f:FrP w H g cap l)(hi:i<l.length)(hb:l.length<=1000001):
  Calls prog 89 #[hy H,hA i] w λe B=>e=.returned (l.getD i Spn.zero).agg/\FrP B H g cap (l.take i++l.drop (i+1))/\Chg (λb=>b=H\/b=g) w B:=by
 obtain⟨n,ad⟩:∃n,n=l.length:=⟨_,rfl⟩
 have bm:E _:=ad.symm;rw[<-ad]at hi hb;obtain⟨s,au⟩:∃s,s=l.getD i Spn.zero:=⟨_,rfl⟩
 have bh:=ez 0 0 w iP;have aL:=ez 0 0 (w.alloc iP) (lh s);have aj:=bh.trans aL;have ba:=f.c0;rw[<-ad]at ba
 have a7:AtP w g (i*2) s:=by
  rcases f.row.ps.at_ with z|⟨az,off,e,aQ,a8,bi,bk⟩
  ·omega
  injection e with e;injection e with ae a9;subst ae a9;have:=bk i xaa;rw[<-au,Nat.zero_add]at this;exact this
 obtain⟨aP,y2⟩:=a7;have HF:E _:=f.keepC (aj.chg (S:=λ_=>False)) (λh=>h) (λh=>h);have HK:E (Chg (λb=>b=H\/b=g) w ((w.alloc iP).alloc (lh s))):=aj.chg
 have bl:E (AtP ((w.alloc iP).alloc (lh s)) w.heap.size 0 Spn.zero/\AtP ((w.alloc iP).alloc (lh s)) (w.heap.size+1) 0 s/\(∀o,((w.alloc iP).alloc (lh s)).frozen? ⟨w.heap.size,o,none⟩=false)/\w.heap.size+1<((w.alloc iP).alloc (lh s)).heap.size):=by
  have F:XB (w.alloc iP) w.heap.size Spn.zero:=m8 w Spn.zero;have N:XB ((w.alloc iP).alloc (lh s)) (w.alloc iP).heap.size s:=m8 (w.alloc iP) s;have bv:(w.alloc iP).heap.size=w.heap.size+1:=by simp
  refine⟨⟨?_,?_⟩,⟨?_,?_⟩,λo=>?_,by simp⟩
  ·rw[aL.cell (p:=⟨w.heap.size,0,none⟩) (by rw[bv];exact yaf) xaa];exact F.at_ 0 _ rfl
  ·rw[aL.cell (p:=⟨w.heap.size,0+1,none⟩) (by rw[bv];exact yaf) xaa];exact F.at_ 1 _ rfl
  ·rw[<-bv];exact N.at_ 0 _ rfl
  ·rw[<-bv];exact N.at_ 1 _ rfl
  rw[aL.frozen (p:=⟨w.heap.size,o,none⟩) (by rw[bv];exact yaf) xaa];exact F.fr o
 have y:E (H<w.heap.size/\g<w.heap.size):=⟨f.lt,f.row.lt⟩
 have K:=f.lt;have aJ:=f.row.lt;have cM:0<=(i:Int):=xaa;have ce:(i:Int)<n:=xaa;clear ad f bh aL aj;rw[<-au];clear au;go_enter func89,ntmps89;go_upto_region 2 with fail;clear ba aP y2 K aJ;generalize (w.alloc iP).alloc (lh s)=aA at HF HK bl⊢;obtain⟨V,bO⟩:∃V,V=w.heap.size:=⟨_,rfl⟩
 rw[<-bO]at bl y⊢;have j:E _:=bO;clear bO;obtain⟨k,O⟩:∃k,n=k+1:=⟨n-1,by omega⟩
 have HD:=Qv aA g cap i (i+1) k n l HF.o.row bm.o O rfl hi xaa;rw[show((i+1:Nat):Int)=(i:Int)+1 from rfl]at HD;have ed:E _:=HD;have u:E _:=O;have ba:=HF.o.c0;rw[bm.o]at ba;have bA:IntKind.i64.wrap ((i:Int)+1)=(i:Int)+1:=by rw[IntKind.wrap_i64];omega
 clear HD O;go_wp2_with fail;refine yaj ed.o ?_;rintro e ag ⟨rfl,a0,c2⟩
 have af:(l.take i++l.drop (i+1)).length=k:=by
  have N:=bm.o;have h3:=u.o;rw[yal,List.length_take,List.length_drop];omega
 have C:=HF.o.put c2 a0 (.inl rfl);rw[af]at C;have bU:E _:=C;have bL:=HF.o.ne;have bD:ag.cell? ⟨H,0,none⟩=some (hz g n cap):=(c2.cell (p:=⟨H,0,none⟩) HF.o.lt bL).trans ba;have aQ:ag.frozen? ⟨H,0,none⟩=false:=(c2.frozen (p:=⟨H,0,none⟩) HF.o.lt bL).trans HF.o.fr;have Q:Chg (λb=>b=H\/b=g) aA (ag.setCell ⟨H,0,none⟩ (hz g k cap)):=Chg.andThen (c2.mono λb _ h=>.inr h) (fC ag H 0 _ (.inl rfl));have bW:E _:=Q;clear Q c2 a0 C af ba bL ed;go_upto_region 3 with fail;generalize ag.setCell ⟨H,0,none⟩ (hz g k cap)=aF at bU bW⊢;clear bD aQ;have ao:∀o,aF.cell? ⟨V,o,none⟩=aA.cell? ⟨V,o,none⟩:=λo=>bW.o.cell (p:=⟨V,o,none⟩) (by have:=bl.o.2.2.2;show V<_;omega) (by have:=y.o;show ¬(V=H\/V=g);omega);have m:∀o,aF.cell? ⟨V+1,o,none⟩=aA.cell? ⟨V+1,o,none⟩:=λo=>bW.o.cell (p:=⟨V+1,o,none⟩) (by have:=bl.o.2.2.2;show V+1<_;omega) (by have:=y.o;show ¬(V+1=H\/V+1=g);omega);have r:∀o,aF.frozen? ⟨V,o,none⟩=aA.frozen? ⟨V,o,none⟩:=λo=>bW.o.frozen (p:=⟨V,o,none⟩) (by have:=bl.o.2.2.2;show V<_;omega) (by have:=y.o;show ¬(V=H\/V=g);omega);have b0:aF.cell? ⟨V,0,none⟩=some (hA 0):=(ao 0).trans bl.o.1.1;have a1:aF.cell? ⟨V,1,none⟩=some (hA 0):=(ao 1).trans bl.o.1.2;have bE:aF.cell? ⟨V+1,0,none⟩=some (hA s.off):=(m 0).trans bl.o.2.1.1;have R:aF.cell? ⟨V+1,1,none⟩=some (hA s.len):=(m 1).trans bl.o.2.1.2;have bG:∀o,aF.frozen? ⟨V,o,none⟩=false:=λo=>(r o).trans (bl.o.2.2.1 o);have q:Chg (λb=>b=V) aF ((aF.setCell ⟨V,0,none⟩ (hA s.off)).setCell ⟨V,1,none⟩ (hA s.len)):=Chg.andThen (fC aF V 0 _ rfl) (fC _ V 1 _ rfl);have R1:E _:=bU.o.keepC q (by have:=y.o;show ¬(H=V);omega) (by have:=y.o;show ¬(g=V);omega);have R2:E (Chg (λb=>b=H\/b=g) w ((aF.setCell ⟨V,0,none⟩ (hA s.off)).setCell ⟨V,1,none⟩ (hA s.len))):=Chg.new (Chg.andThen HK.o bW.o) q (λi hi e=>hJ j.o)
 have aD:((aF.setCell ⟨V,0,none⟩ (hA s.off)).setCell ⟨V,1,none⟩ (hA s.len)).cell? ⟨V,0,none⟩=some (hA s.off):=by
  rw[eQ _ _ _ _ _ _ (.inr xaa)];exact fy _ _ _ _ _ b0
 have a5:((aF.setCell ⟨V,0,none⟩ (hA s.off)).setCell ⟨V,1,none⟩ (hA s.len)).cell? ⟨V,1,none⟩=some (hA s.len):=by
  refine fy _ _ _ _ _ (?_:_=some (hA 0));rw[eQ _ _ _ _ _ _ (.inr xaa)];exact a1
 have p:E _:=aD;have Z:E _:=a5;clear ao m r q aD a5 bU bW;go_wp2_with fail;have aD:=p.o;have a5:=Z.o;refine yaz (v:=s.agg) (by simp[results,results89,go_sem,aD,a5]) rfl ⟨rfl,R1.o,R2.o⟩
abbrev nw(n:Int):Obj:=.cells #[.int .i64 n] 3
structure ZB(W:World)(B:Nat):Prop where
 c0:W.cell? ⟨B,0,none⟩=some (.int .i64 0)
 c1:W.cell? ⟨B,1,none⟩=some (.int .i64 0)
 fr:∀o,W.frozen? ⟨B,o,none⟩=false
 lt:B<W.heap.size
theorem G1(w:World):ZB (w.alloc iP) w.heap.size:=by
 have h:XB (w.alloc iP) w.heap.size Spn.zero:=m8 w Spn.zero;exact⟨h.at_ 0 _ rfl,h.at_ 1 _ rfl,h.fr,h.lt⟩
theorem ZB.keepC{W}(f:ZB W J)(k:Chg S W I)(aK:¬S J):ZB I J:=
 ⟨by rw[k.cell (p:=⟨J,0,none⟩) f.lt aK];exact f.c0,by rw[k.cell (p:=⟨J,1,none⟩) f.lt aK];exact f.c1,λo=>by rw[k.frozen (p:=⟨J,o,none⟩) f.lt aK];exact f.fr o,yak f.lt k.size⟩
structure TK(w W4:World)(R g cap V B:Nat)(n:Int)(l':List Spn)(s:Spn):Prop where
 at_:AtP W4 B 0 s
 fr:FrP W4 R g cap l'
 chg:Chg (λb=>b=R\/b=g) w W4
 nV:W4.cell? ⟨V,0,none⟩=some (.int .i64 n)
 zb:ZB W4 (V+1)
 ne:V+1<B/\R<V/\g<V/\w.heap.size=V
 lt:B<W4.heap.size
theorem xG{w aA aF bc V n s}(al:Chg (λb=>b=H\/b=g) w aA)(F:Chg (λb=>b=H\/b=g) aA aF)(N:Chg (λb=>b=J) aF bc)(v:FrP aF H g cap U)(bO:aA.cell? ⟨V,0,none⟩=some (hA n))(bv:ZB aA (V+1))(K:H<V)(aJ:g<V)(X:w.heap.size=V)(aT:aA.heap.size<=J)(a7:AtP bc J 0 s)(af:J<bc.heap.size):TK w bc H g cap V J n U s where
 at_:=a7
 fr:=v.keepC N (by have:=bv.lt;show ¬(H=J);omega) (by have:=bv.lt;show ¬(g=J);omega)
 chg:=Chg.new (Chg.andThen al F) N (λi hi e=>hJ bv.lt)
 nV:=by
  have:=bv.lt;have:=F.size;rw[N.cell (p:=⟨V,0,none⟩) (by show V<_;omega) (by show ¬(V=J);omega),F.cell (p:=⟨V,0,none⟩) (by show V<_;omega) (by show ¬(V=H\/V=g);omega)]
  exact bO
 zb:=by
  have:=bv.lt
  exact(bv.keepC F (by show ¬(V+1=H\/V+1=g);omega)).keepC N (by show ¬(V+1=J);omega)
 ne:=⟨hJ bv.lt,K,aJ,X⟩
 lt:=af
theorem sA{W}(z:ZB W J)(s):AtP ((W.setCell ⟨J,0,none⟩ (hA s.off)).setCell ⟨J,1,none⟩ (hA s.len)) J 0 s:=by
 refine⟨?_,?_⟩
 ·rw[eQ _ _ _ _ _ _ (.inr xaa)];exact fy _ _ _ _ _ z.c0
 refine fy _ _ _ _ _ (?_:_=some (hA 0));rw[eQ _ _ _ _ _ _ (.inr xaa)];exact z.c1
theorem mr(W J)(s:Spn):Chg (λb=>b=J) W ((W.setCell ⟨J,0,none⟩ (hA s.off)).setCell ⟨J,1,none⟩ (hA s.len)):=Chg.andThen (fC W J 0 _ rfl) (fC _ J 1 _ rfl)
def TkO(w:World)(R g k:Nat)(l:List Spn)(n:Int)(e:Ending)(w':World):Prop:=∃g' cap',e=.returned (Spn.mk (l.getD k Spn.zero).off n).agg/\FrP w' R g' cap' (qA l k n)/\Chg (λb=>b=R\/b=g) w w'/\(g'=g\/w.heap.size<=g')
theorem PF(w H g cap k l n)(f:FrP w H g cap l)(au:RunsF 0 l)(hb:l.length<=1000000)(ad:1<=n)(ht:∀s∈l,s.off+s.len<=50000)(O:ke n l=some k):
  Calls prog 59 #[hy H,hA n] w λe B=>TkO w H g k l n e B:=by
 obtain⟨aw,ak,aR⟩:=ow O;have bh:=ez 0 0 w (nw n);have aL:=ez 0 0 (w.alloc (nw n)) iP;have aj:=bh.trans aL;have HF:E _:=f.keepC (aj.chg (S:=λ_=>False)) (λh=>h) (λh=>h);have HK:E (Chg (λb=>b=H\/b=g) w ((w.alloc (nw n)).alloc iP)):=aj.chg;have bv:(w.alloc (nw n)).heap.size=w.heap.size+1:=by simp
 have bl:E (((w.alloc (nw n)).alloc iP).cell? ⟨w.heap.size,0,none⟩=some (hA n)/\AtP ((w.alloc (nw n)).alloc iP) (w.heap.size+1) 0 Spn.zero/\(∀o,((w.alloc (nw n)).alloc iP).frozen? ⟨w.heap.size+1,o,none⟩=false)/\w.heap.size+1<((w.alloc (nw n)).alloc iP).heap.size):=by
  have N:XB ((w.alloc (nw n)).alloc iP) (w.alloc (nw n)).heap.size Spn.zero:=m8 (w.alloc (nw n)) Spn.zero;rw[bv]at N;refine⟨?_,⟨N.at_ 0 _ rfl,N.at_ 1 _ rfl⟩,λo=>N.fr o,by simp⟩;rw[aL.cell (p:=⟨w.heap.size,0,none⟩) (by rw[bv];exact yaf) xaa];rw[World.cell?_alloc_at _ _ w.heap.size 0 rfl];rfl
 have y:E (H<w.heap.size/\g<w.heap.size):=⟨f.lt,f.row.lt⟩
 have ao:E _:=au;have C:E _:=O;have bX:E _:=aw;have af:E _:=ht;clear bh aL aj bv f au O aw ak aR ht;go_enter func59,ntmps59;go_upto_region 2 with fail;generalize (w.alloc (nw n)).alloc iP=aA at HF HK bl⊢;obtain⟨V,bO⟩:∃V,V=w.heap.size:=⟨_,rfl⟩
 rw[<-bO]at bl y⊢;have j:E _:=bO;clear bO;obtain⟨m,am⟩:∃m,m=l.length:=⟨_,rfl⟩
 have HM:E _:=am.symm;have ba:=HF.o.c0;rw[<-am]at ba hb;clear am;obtain⟨s,Q⟩:∃s,s=l.getD k Spn.zero:=⟨_,rfl⟩
 have ai:E _:=Q.symm
 have bZ:E (∀W,Kept 0 0 aA W->Calls prog 90 #[hz g m cap,.func (.func 88) #[] #[hy V]] W λe B=>e=.returned (hA k)/\Kept 0 0 W B):=λW bJ=>
  NQ W g (g+1) (some ⟨g,0,none⟩) m cap l V n (yak (hJ bl.o.2.2.2) bJ.size) (by rw[bJ.cell (p:=⟨V,0,none⟩) (by have:=bl.o.2.2.2;show V<_;omega) xaa];exact bl.o.1) (by have:=(HF.o.row.keepC (bJ.chg (S:=λ_=>False)) (λh=>h)).ps;rw[HM.o]at this;exact this) hb k C.o
 have bW:E (∀W,Kept 0 0 aA W->Calls prog 89 #[hy H,hA k] W λe B=>e=.returned s.agg/\FrP B H g cap (l.take k++l.drop (k+1))/\Chg (λb=>b=H\/b=g) W B):=λW bJ=>by
  rw[Q]
  exact Cm W H g cap k l (HF.o.keepC (bJ.chg (S:=λ_=>False)) (λh=>h) (λh=>h)) bX.o (hJ HM.o)
 clear Q;have an:E (∀J,aA.heap.size<=J->¬(J=H\/J=g)):=λJ aT h=>hK y.o bl.o.2.2.2
 have K:=HF.o.lt
 first|(go_region_with (first
  |(go_at_call 90;first
   |(refine yaj (bZ.o aA.drew (eG aA)) ?_;rintro e ag ⟨rfl,u⟩;have ak:=(eG aA).trans u)
   |(refine yaj (bZ.o (aA.alloc iP).drew ((ez 0 0 aA iP).trans (eG _))) ?_;rintro e ag ⟨rfl,u⟩;have ak:=((ez 0 0 aA iP).trans (eG _)).trans u;have Y:E (ZB ag aA.heap.size):=(G1 aA).keepC (((eG _).trans u).chg (S:=λ_=>False)) (λh=>h)))
  |(go_at_call 89;first
   |(have ar:=Y.o;refine yaj (bW.o ag ak) ?_;rintro e aF ⟨rfl,v,P⟩;obtain⟨bE,R,bx,bm⟩:=ar.keepC P (an.o _ yad))
   |(refine yaj (bW.o ag ak) ?_;rintro e aF ⟨rfl,v,P⟩)
   |(refine yaj (bW.o (ag.alloc iP) (ak.trans (ez 0 0 ag iP))) ?_;rintro e aF ⟨rfl,v,P⟩;obtain⟨bE,R,bx,bm⟩:=(G1 ag).keepC P (an.o _ ak.size)))))|fail
 all_goals
  have x:E (ZB aA (V+1)):=⟨bl.o.2.1.1,bl.o.2.1.2,bl.o.2.2.1,bl.o.2.2.2⟩
  first
  |(obtain⟨bc,J,a6,aT,aV⟩:∃bc J,bc=aF.alloc (lh s)/\J=aF.heap.size/\E (TK w bc H g cap V J n (l.take k++l.drop (k+1)) s):=⟨_,_,rfl,rfl,xG HK.o (Chg.andThen ak.chg P) (ez 0 0 aF (lh s)).chg v bl.o.1 x.o y.o.1 y.o.2 j.o.symm (yao ak.size P.size) (by have h:XB (aF.alloc (lh s)) aF.heap.size s:=m8 aF s;exact⟨h.at_ 0 _ rfl,h.at_ 1 _ rfl⟩) xac⟩
    rw[<-a6,<-aT]
    clear a6 aT)
  |(obtain⟨J,aT⟩:∃J,J=ag.heap.size:=⟨_,rfl⟩
    rw[<-aT]at bE R bx bm⊢
    obtain⟨bc,a6,aV⟩:∃bc,bc=(aF.setCell ⟨J,0,none⟩ (hA s.off)).setCell ⟨J,1,none⟩ (hA s.len)/\E (TK w bc H g cap V J n (l.take k++l.drop (k+1)) s):=⟨_,rfl,xG HK.o (Chg.andThen (ak.trans (ez 0 0 ag iP)).chg P) (mr aF J s) v bl.o.1 x.o y.o.1 y.o.2 j.o.symm (hL aT ak.size) (sA ⟨bE,R,bx,bm⟩ s) (yak bm (mr aF J s).size)⟩
    rw[<-a6]
    clear a6 aT bE R bx bm)
  |(obtain⟨J,aT⟩:∃J,J=aA.heap.size:=⟨_,rfl⟩
    rw[<-aT]at bE R bx bm⊢
    obtain⟨bc,a6,aV⟩:∃bc,bc=(aF.setCell ⟨J,0,none⟩ (hA s.off)).setCell ⟨J,1,none⟩ (hA s.len)/\E (TK w bc H g cap V J n (l.take k++l.drop (k+1)) s):=⟨_,rfl,xG HK.o (Chg.andThen ak.chg P) (mr aF J s) v bl.o.1 x.o y.o.1 y.o.2 j.o.symm (by rw[aT];exact yad) (sA ⟨bE,R,bx,bm⟩ s) (yak bm (mr aF J s).size)⟩
    rw[<-a6]
    clear a6 aT bE R bx bm)
  clear v P bZ bW K ba HF HK bl x j ak u
  obtain⟨bz,bo⟩:=aV.o.at_
  rw[Nat.zero_add]at bo
  have aD:=aV.o.nV
  have bL:E _:=DX ao.o (hJ HM.o) ad af.o C.o ai.o
  have Z:=bL.o.off
  have bA:IntKind.i64.wrap (s.off+n)=s.off+n:=by rw[IntKind.wrap_i64];omega
  have cl:IntKind.i64.wrap (s.len-n)=s.len-n:=by rw[IntKind.wrap_i64];omega
  clear Z
  by_cases aG:n<s.len
  ·have aI:E (∀W,Kept 0 0 bc W->_):=λW (bJ:Kept 0 0 bc W)=>Ck W H g cap (l.take k++l.drop (k+1)) (Spn.mk (s.off+n) (s.len-n)) (aV.o.fr.keepC (bJ.chg (S:=λ_=>False)) (λh=>h) (λh=>h)) bL.o.runs bL.o.len
   go_wp2_with fail
   go_region_held3 (λB=>B.cell? ⟨J,0,none⟩=some (hA s.off)/\B.cell? ⟨J,1,none⟩=some (hA s.len)/\B.cell? ⟨V,0,none⟩=some (hA n)) (go_keep)
    (first|(go_at_call 91;refine yaj (aI.o _ (eG bc)) ?_;rintro e bp ⟨i,aq,cap',rfl,bf,ah,ab,b7⟩;have X:Chg (λb=>b=H\/b=g) bc bp:=Chg.andThen (eG bc).chg ab;have bn:bp.cell? ⟨J,0,none⟩=some (hA s.off):=(by rw[X.cell (p:=⟨J,0,none⟩) aV.o.lt (by have:=aV.o.ne;show ¬(J=H\/J=g);omega)];exact bz);have aX:bp.cell? ⟨J,1,none⟩=some (hA s.len):=(by rw[X.cell (p:=⟨J,1,none⟩) aV.o.lt (by have:=aV.o.ne;show ¬(J=H\/J=g);omega)];exact bo);have bb:bp.cell? ⟨V,0,none⟩=some (hA n):=(by rw[X.cell (p:=⟨V,0,none⟩) (by have:=aV.o.zb.lt;show V<_;omega) (by have:=aV.o.ne;show ¬(V=H\/V=g);omega)];exact aD)))
   all_goals
    rw[bL.o.cut aG i bf]at ah
    have ae:E (aq=g\/w.heap.size<=aq):=b7.imp id (λh=>yao aV.o.chg.size h)
    have al:E (¬(aq=V+1)):=λe=>by
     have F:=aV.o.ne
     have N:=aV.o.lt
     rcases b7 with h|h
     ·omega
     ·have:bc.heap.size<=aq:=h
      omega
    have b6:E (V<bp.heap.size):=yak (hJ aV.o.zb.lt) X.size
    have q:ZB bp (V+1):=aV.o.zb.keepC X (by have:=aV.o.ne;show ¬(V+1=H\/V+1=g);omega)
    obtain⟨(z:E _),(G:E _)⟩:=sA q (Spn.mk s.off n)
    have aa:E _:=ah.keepC (mr bp (V+1) (Spn.mk s.off n)) (by have:=aV.o.ne;show ¬(H=V+1);omega) (by exact al.o)
    have p:E (Chg (λb=>b=H\/b=g) w _):=Chg.new (Chg.andThen aV.o.chg X) (mr bp (V+1) (Spn.mk s.off n)) (λi hi e=>hJ aV.o.ne)
    obtain⟨u0,u1,ap,r⟩:=q
    clear r
    go_wp2_with fail
    have bD:=z.o
    have aQ:=G.o
    simp only[Nat.zero_add]at bD aQ
    refine yaz (v:=(Spn.mk s.off n).agg) (by simp[results,results59,go_sem,bD,aQ]) rfl (by unfold TkO;exact⟨aq,cap',by rw[ai.o],aa.o,p.o,ae.o⟩)
  ·have ah:=aV.o.fr
   rw[bL.o.all_ aG]at ah
   have b6:E (V<bc.heap.size):=yak (hJ aV.o.zb.lt) yad
   have q:ZB bc (V+1):=aV.o.zb
   obtain⟨(z:E _),(G:E _)⟩:=sA q (Spn.mk s.off n)
   have aa:E _:=ah.keepC (mr bc (V+1) (Spn.mk s.off n)) (by have:=aV.o.ne;show ¬(H=V+1);omega) (by have:=aV.o.ne;show ¬(g=V+1);omega)
   have p:E (Chg (λb=>b=H\/b=g) w _):=Chg.new aV.o.chg (mr bc (V+1) (Spn.mk s.off n)) (λi hi e=>hJ aV.o.ne)
   obtain⟨u0,u1,ap,r⟩:=q
   clear r
   go_wp2_with fail
   have bD:=z.o
   have aQ:=G.o
   simp only[Nat.zero_add]at bD aQ
   refine yaz (v:=(Spn.mk s.off n).agg) (by simp[results,results59,go_sem,bD,aQ]) rfl (by unfold TkO;exact⟨g,cap,by rw[ai.o],aa.o,p.o,.inl rfl⟩)
