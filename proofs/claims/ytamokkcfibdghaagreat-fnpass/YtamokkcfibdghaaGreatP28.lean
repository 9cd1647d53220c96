import Derived.Test.YtamokkcfibdghaaGreatP27
namespace Go.Proofs.Z
variable {Zp:Prop}
open Tryz
set_option maxRecDepth 1000000
set_option maxHeartbeats 0
section
open Go.RowKit Flt
variable {r:List Nat}{us vs:List Vl}{ins outs:List Int}
theorem Gb{op}(h:op≠1)(len C K e Q X al):iW op len C K Q X al=iW op len C e Q X al:=by
 unfold iW
 have:fA op C K Q X al=fA op C e Q X al:=by
  funext k;unfold fA;rw[hJ h,hJ h]
 rw[this]
def rp (news:List Vl)(o:Int):List Nat:=List.replicate (news.getD o.toNat hM).len.toNat (news.getD o.toNat hM).k
def r6 (news:List Vl)(v:Vl):Bool:=decide (0<cnt v.op)&&(eW v).all λo=>(news.getD o.toNat hM).op==1
def nN (news:List Vl)(v:Vl):List Nat:=iW v.op v.len v.c v.k (if 0<cnt v.op then rp news v.a else[]) (if 1<cnt v.op then rp news v.b else[]) (if 2<cnt v.op then rp news v.c else[])
def uni (r:List Nat):Bool:=decide (0<r.length)&&r.all λx=>fb x==fb (r.getD 0 0)
def jk (news:List Vl)(v:Vl):Vl:=if r6 news v=true/\uni (nN news v)=true then⟨1,v.len,0,0,0,(nN news v).getD 0 0⟩else v
def fV (vs:List Vl):Nat->List Vl
 |0=>[]
 |i+1=>fV vs i++[jk (fV vs i) (vs.getD i hM)]
theorem kE(vs):∀i,(fV vs i).length=i
 |0=>rfl
 |i+1=>by rw[fV,yak,kE vs i];rfl
theorem tU{p}:r.all p=true↔∀k,k<r.length->p (r.getD k 0)=true:=by
 rw[List.all_eq_true];constructor
 ·intro h k O;rw[yah,yal O];exact h _ (List.getElem_mem _)
 intro h x au;obtain⟨k,O,rfl⟩:=List.getElem_of_mem au;have:=h k O;rw[yah,yal O]at this;exact this
theorem rt{s}(h:fU r s):uni r=uni s:=by
 have ah:=jc h;unfold uni;rw[ah];congr 1;rw[Bool.eq_iff_iff,tU,tU,ah];have e:=gO h;constructor
 ·intro q k O;have:=q k O;rw[e k,e 0]at this;exact this
 intro q k O;rw[e k,e 0];exact q k O
theorem Dv(h:Lk us vs)(o):fU (rp us o) (rp vs o):=by
 have e:=h.at_ o.toNat;unfold rp;generalize us.getD o.toNat hM=u at*;generalize vs.getD o.toNat hM=v at*;unfold cv at e;injection e with ae a9 ak e4 bx J;unfold fU;rw[a9,List.map_replicate,List.map_replicate,J]
theorem sI(h:Kb us)(o):∀x∈rp us o,x<18446744073709551616:=by
 intro x au;unfold rp at au;rw[List.eq_of_mem_replicate au];exact h.at_ _
theorem Dz(G v):(jk G v).len=v.len:=by
 unfold jk;split<;>rfl
theorem mD(vs):∀i j,j<i->((fV vs i).getD j hM).len=(vs.getD j hM).len
 |0,j,hj=>by omega
 |i+1,j,hj=>by
  have ah:=kE vs i
  rw[fV]
  by_cases c:j<i
  ·rw[im _ _ (hU ah c)];exact mD vs i j c
  ·have:j=i:=xaa
   subst this
   have:=gX (fV vs j) (jk (fV vs j) (vs.getD j hM))
   rw[ah]at this
   rw[this]
   exact Dz _ _
theorem DA{i len k}(e:vs.getD i hM=⟨1,len,0,0,0,k⟩)(h:lenB len=true):okV ins vs i=true:=by
 unfold okV;rw[e];simp only;rw[h];rfl
theorem rx{ins vs}:∀i,(∀j,j<i->okV ins vs j=true)->∀j,j<i->okV ins (fV vs i) j=true
 |0,_,j,hj=>by omega
 |i+1,h,j,hj=>by
  have ah:=kE vs i
  have ag:=rx (ins:=ins) (vs:=vs) i (λj hj=>h j xaa)
  rw[fV]
  by_cases c:j<i
  ·exact nh (hU ah c) (ag j c)
  ·have:j=i:=xaa
   subst this
   have ae:(fV vs j++[jk (fV vs j) (vs.getD j hM)]).getD j hM=jk (fV vs j) (vs.getD j hM):=by
    have:=gX (fV vs j) (jk (fV vs j) (vs.getD j hM));rw[ah]at this
    exact this
   have av:=h j xaa
   by_cases hb:r6 (fV vs j) (vs.getD j hM)=true/\uni (nN (fV vs j) (vs.getD j hM))=true
   ·have a9:=ae
    unfold jk at a9;rw[hK hb]at a9;unfold jk;rw[hK hb]
    exact DA a9 (jZ av)
   ·have a9:jk (fV vs j) (vs.getD j hM)=vs.getD j hM:=by unfold jk;rw[hJ hb]
    rw[a9]at ae⊢;refine wN av id (by rw[ae]) (by rw[ae]) (λ_=>by rw[ae]) (λ_=>by rw[ae]) (λ_=>by rw[ae]) (by rw[ae];simp) ?_;intro o _ aj B;refine⟨⟨aj,B⟩,?_⟩;rw[im _ _ (by rw[ah];simp only[id];omega)];exact mD vs j o.toNat xaa
theorem Gc(h:okG ins vs outs=true):okG ins (fV vs vs.length) outs=true:=by
 obtain⟨B,R,h3,a8,bQ⟩:=gz h;have bP:=kE vs vs.length;refine th ⟨B.1,hU bP B.2.1,B.2.2⟩ R (λj hj=>rx vs.length h3 j (hV bP hj)) (hU bP a8) ?_;rw[rg _ vs bP (λj hj=>mD vs vs.length j (hV bP hj))];exact bQ
def gG (p:Int)(vs:List Vl)(outs:List Int):List Vl×List Int:=
 if p=0 then pz vs outs else if p=2 then (fV vs vs.length,outs)else eqM p vs outs
theorem zy(p)(h:okG ins vs outs=true):okG ins (gG p vs outs).1 (gG p vs outs).2=true:=by
 unfold gG;split
 ·exact Fb h
 split
 ·exact Gc h
 exact Mu p h
theorem Ge{G v}(h:Kb G)(aL:v.k<18446744073709551616):(jk G v).k<18446744073709551616:=by
 unfold jk;split
 ·exact fx (xJ aL (kD (sI h _)) (kD (sI h _)) (kD (sI h _))) 0
 exact aL
theorem mW{vs}(h:Kb vs):∀i,Kb (fV vs i)
 |0=>by intro v aL;simp[fV]at aL
 |i+1=>by
  rw[fV]
  exact(mW h i).app (Ge (mW h i) (h.at_ i))
theorem mE{vs}(h:Kb vs)(p):∀i,Kb (fh p vs i).1
 |0=>by intro v aL;simp[fh]at aL
 |i+1=>(mE h p i).app (h.at_ i)
theorem qG{vs}(h:Kb vs)(F):∀i,Kb (iJ F vs i).1
 |0=>by intro v aL;simp[iJ]at aL
 |i+1=>by
  rw[iJ]
  split
  ·exact(qG h F i).app (h.at_ i)
  ·exact qG h F i
theorem Gf(p)(h:Kb vs):Kb (gG p vs outs).1:=by
 unfold gG;split
 ·exact qG h _ _
 split
 ·exact mW h _
 exact mE h p _
end
section
open Flt Ieee
variable {x:Nat}
theorem xK{op y}(au:x<18446744073709551616)(B:∀s r,r<9218868437227405312->floatBits op .f64 (W s r) y=some (W s r))
  (R:∀s,floatBits op .f64 (W s 9218868437227405312) y=some (W s 9218868437227405312)):fb (cop op x y)=fb x:=by
 obtain⟨s,r,ay,rfl⟩:=jD x au;rcases Nat.lt_trichotomy r 9218868437227405312 with h|rfl|h
 ·unfold cop;rw[B s r h];rfl
 ·unfold cop;rw[R s];rfl
 rw[qX h ay];unfold cop;rw[kB _ (by show(double.read _).isNaN=true;rw[nU h ay];rfl)];exact oP xab
theorem Gg:p2 52*p2 (E 4607182418800017408)=p2 1074:=by rw[show E 4607182418800017408=1022 by decide,<-kU]
theorem val_one:val 4607182418800017408=p2 1074:=by rw[nT,show M 4607182418800017408=p2 52 by decide,Gg]
theorem mul_one(au:x<18446744073709551616):fb (cop .mul x 4607182418800017408)=fb x:=by
 refine xK au (λs r h=>?_) (λs=>?_)
 ·have:=uM (s:=s) (t:=false) (q:=4607182418800017408) h xab h (by rw[val_one]);rw[Bool.xor_false]at this;exact this
 show double.mul _ (W false 4607182418800017408)=_;unfold Format.mul;rw[kJ,gW xab];cases s<;>decide
theorem div_one(au:x<18446744073709551616):fb (cop .quo x 4607182418800017408)=fb x:=by
 refine xK au (λs r h=>?_) (λs=>?_)
 ·have:=qW (s:=s) (t:=false) (q:=4607182418800017408) h xab h xab (by rw[Gg]);rw[Bool.xor_false]at this;exact this
 show double.div _ (W false 4607182418800017408)=_;unfold Format.div;rw[kJ,gW xab];cases s<;>decide
theorem sub_zero(au:x<18446744073709551616):fb (cop .sub x 0)=fb x:=by
 refine xK au (λs r h=>?_) (λs=>?_)
 ·exact CE (s:=s) (t:=false) (q:=0) h xab h (by rw[jE];simp[sg]) (λ_=>by simp)
 show double.sub _ (W false 0)=_;unfold Format.sub;rw[kJ,CC];cases s<;>decide
theorem vy(au:x<18446744073709551616):fb (cop .add x 9223372036854775808)=fb x:=by
 refine xK au (λs r h=>?_) (λs=>?_)
 ·exact uO (s:=s) (t:=true) (q:=0) h xab h (by rw[jE];simp[sg]) (λ_=>by simp)
 show double.add _ (W true 0)=_;unfold Format.add;rw[kJ,gW xab];cases s<;>decide
theorem Gh{op}(h:op=.add\/op=.mul)(x y):cop op x y=cop op y x:=by
 unfold cop
 have e:floatBits op .f64 x y=floatBits op .f64 y x:=by
  rcases h with rfl|rfl
  ·show double.add x y=double.add y x;unfold Format.add;congr 1;cases double.read x<;>cases double.read y<;>simp only[Datum.sum]
   ·rename_i s m i t n j;rw[Int.min_comm i j,Int.add_comm,Bool.and_comm]
   rename_i s t;by_cases c:s=t
   ·subst c;rfl
   rw[hJ c,hJ (λd=>c d.symm)]
  show double.mul x y=double.mul y x;unfold Format.mul;congr 1;cases double.read x<;>cases double.read y<;>simp only[Datum.product]
  ·rename_i s m i t n j;rw[Bool.xor_comm,Nat.mul_comm,Int.add_comm]
  rw[Bool.xor_comm]
 rw[e]
theorem J5(au:x<18446744073709551616):Op.negFloat .f64 (Op.negFloat .f64 x)=x:=by
 obtain⟨s,r,ay,rfl⟩:=jD x au;rw[uL s ay,uL _ ay,Bool.not_not]
end
section
open Go.RowKit Flt
variable {op len C:Int}{ins tq outs:List Int}{xss A r I:List (List Nat)}{us vs:List Vl}{j i K k:Nat}{u v:Vl}{Q X al:List Nat}
theorem NA(h:op≠11)(h':op≠12)(len C C' K Q X al):iW op len C K Q X al=iW op len C' K Q X al:=by
 unfold iW
 have e:fA op C K Q X al=fA op C' K Q X al:=by
  funext k;unfold fA;simp[h,h']
 have a9:fk op len C Q.length X.length al.length=fk op len C' Q.length X.length al.length:=by unfold fk eR;simp[h,h']
 rw[e,a9]
theorem ry(ae:u.op=v.op)(a9:u.len=v.len)(J:u.k=v.k)(ak:cnt v.op<1->fU (xss.getD u.a.toNat []) (r.getD v.a.toNat []))(bx:cnt v.op<3->u.c=v.c)(f:gZ A)(z:gZ I)
  (G:0<cnt v.op->fU (A.getD u.a.toNat []) (I.getD v.a.toNat [])) (hb:1<cnt v.op->fU (A.getD u.b.toNat []) (I.getD v.b.toNat [])) (ai:2<cnt v.op->fU (A.getD u.c.toNat []) (I.getD v.c.toNat [])):fU (one xss u A) (one r v I):=by
 unfold one;rw[ae,a9,J];by_cases aj:v.op=0
 ·rw[hK aj,hK aj];exact ak (by rw[aj];decide)
 rw[hJ aj,hJ aj]
 have aw:∀(q:Prop) [Decidable q] (x y:List Nat),(q->fU x y)->fU (if q then x else[]) (if q then y else[]):=λq _ x y h=>by
  by_cases c:q
  ·rw[hK c,hK c];exact h c
  ·rw[hJ c,hJ c];rfl
 have e:iW v.op v.len u.c v.k=iW v.op v.len v.c v.k:=by
  by_cases c:cnt v.op<3
  ·rw[bx c]
  funext a b d;exact NA (λh=>c (by rw[h];decide)) (λh=>c (by rw[h];decide)) _ _ _ _ _ _ _
 rw[e];exact nD (aw _ _ _ G) (aw _ _ _ hb) (aw _ _ _ ai) (kD (f _)) (kD (z _))
theorem B6(f:gZ A)(z:gZ I)(h:∀o∈eW v,fU (A.getD (tq.getD o.toNat 0).toNat []) (I.getD o.toNat [])):fU (one xss (rnm tq v) A) (one xss v I):=by
 refine ry rfl rfl rfl (λc=>?_) (λc=>?_) f z (λc=>?_) (λc=>?_) (λc=>?_)
 ·unfold rnm;simp only;rw[hJ xaa];rfl
 ·unfold rnm;simp only;rw[hJ xaa]
 ·have:=h _ (gI xaa);unfold rnm;simp only;rw[hK c];exact this
 ·have:=h _ (jm xaa);unfold rnm;simp only;rw[hK c];exact this
 have:=h _ (lR xaa);unfold rnm;simp only;rw[hK c];exact this
theorem nF{xss us vs}:∀i,(∀j,j<i->us.getD j hM=vs.getD j hM)->eU xss us i=eU xss vs i
 |0,_=>rfl
 |i+1,h=>by rw[eU,eU,nF i (λj hj=>h j xaa),h i xaa]
theorem tV(xss us u):eU xss (us++[u]) (us.length+1)=eU xss us us.length++[one xss u (eU xss us us.length)]:=by
 rw[eU,nF us.length (λj hj=>im us u hj),gX]
theorem o6(x)(h:j<A.length):(A++[x]).getD j []=A.getD j []:=by
 exact xji
theorem pN(x)(h:j=A.length):(A++[x]).getD j []=x:=by
 rw[h,yah,yar yad,Nat.sub_self];rfl
theorem oy(h:k<(iW op len C K Q X al).length):(iW op len C K Q X al).getD k 0=fA op C K Q X al k:=by
 unfold iW at h⊢;split at h
 ·rename_i c;rw[hK c];have h':k<len.toNat:=by simpa using h
  simp[List.getD_eq_getElem?_getD,h']
 cases h
theorem DB(op len C K e Q X al):(iW op len C K Q X al).length=(iW op len C e Q X al).length:=by
 unfold iW;by_cases c:fk op len C Q.length X.length al.length=true
 ·rw[hK c,hK c];simp
 rw[hJ c,hJ c]
theorem sJ(hj:j<i)(h:∀o∈eW (us.getD j hM),0<=o/\o<j):(eU xss us i).getD j []=one xss (us.getD j hM) (eU xss us i):=by
 have e:∀q,q<=i->∀m,m<q->(eU xss us i).getD m []=(eU xss us q).getD m []:=λq aq m az=>by
  have:=vx xss us (i:=q) (j:=m) (i-q) az
  rwa [show q+(i-q)=i by omega]at this
 rw[e (j+1) hj j yae,jy];generalize us.getD j hM=v at h;have aw:∀o∈eW v,(eU xss us j).getD o.toNat []=(eU xss us i).getD o.toNat []:=λo av=>(e j xaa _ (hR (h o av))).symm;have bH:0<cnt v.op->_:=λc=>aw _ (gI xaa);have F:1<cnt v.op->_:=λc=>aw _ (jm xaa);have ag:2<cnt v.op->_:=λc=>aw _ (lR xaa);unfold one;congr 2
 ·by_cases c:0<cnt v.op
  ·rw[hK c,hK c,bH c]
  rw[hJ c,hJ c]
 ·by_cases c:1<cnt v.op
  ·rw[hK c,hK c,F c]
  rw[hJ c,hJ c]
 by_cases c:2<cnt v.op
 ·rw[hK c,hK c,ag c]
 rw[hJ c,hJ c]
theorem vz(h:ij u v=true):fU (one xss u A) (one xss v A):=by
 unfold ij at h;simp only[Bool.and_eq_true,beq_iff_eq,Bool.or_eq_true,bne_iff_ne]at h;obtain⟨⟨aO,aR,b2,a0,cz⟩,m⟩:=h;unfold one;rw[aO,aR,b2,a0,cz];rw[aO]at m;split
 ·rfl
 rcases m with m|m
 ·rw[Gb m v.len v.c u.k v.k];rfl
 by_cases c:v.op=1
 ·rw[c];have ah:=DB 1 v.len v.c u.k v.k (if 0<cnt 1 then A.getD v.a.toNat [] else[]) (if 1<cnt 1 then A.getD v.b.toNat [] else[]) (if 2<cnt 1 then A.getD v.c.toNat [] else[]);refine oQ ah λk O=>?_;rw[oy O,oy (hV ah O)];exact m
 rw[Gb c v.len v.c u.k v.k];rfl
theorem zB{b c}(hb:b.toNat<i)(h:isC us b c=true):∀k,k<((eU xss us i).getD b.toNat []).length->fb (((eU xss us i).getD b.toNat []).getD k 0)=c:=by
 unfold isC at h;rw[Bool.and_eq_true,beq_iff_eq,beq_iff_eq]at h;rw[sJ hb (λo av=>by unfold eW at av;rw[h.1]at av;simp[cnt]at av)];intro k O;unfold one at O⊢;rw[h.1]at O⊢;rw[hJ xab]at O⊢;rw[oy O];exact h.2
theorem Gi{op}(h:v.op=2/\op=.add\/v.op=3/\op=.sub\/v.op=4/\op=.mul\/v.op=5/\op=.quo)(O:k<(one xss v A).length):(one xss v A).getD k 0=cop op ((A.getD v.a.toNat []).getD k 0) ((A.getD v.b.toNat []).getD k 0):=by
 have c2:cnt v.op=2:=wO xaa;unfold one at O⊢;rw[hJ xaa]at O⊢;rw[oy O,c2];unfold fA;rcases h with⟨h,rfl⟩|⟨h,rfl⟩|⟨h,rfl⟩|⟨h,rfl⟩<;>rw[h]<;>rfl
theorem rz(h:∀j,j<i->okV ins us j=true):(List.range i).all (okV ins us)=true:=List.all_eq_true.2 λj hj=>h j (List.mem_range.1 hj)
theorem Gj(h:0<(iW op len C K Q X al).length):(iW op len C K Q X al).length=len.toNat:=by
 unfold iW at h⊢;by_cases c:fk op len C Q.length X.length al.length=true
 ·rw[hK c];simp
 rw[hJ c]at h;cases h
theorem cU.qdb(h:Zp:=by
 rw[Int.toNat_natCast];refine⟨hj,?_⟩;rw[sJ hj (λo av=>(E.opr _ hj o av).1),bg];exact vz m):Zp:=h
theorem cU.qfg(h:Zp:=by
 have t:((one xss (rnm S.2 (vs.getD i hM)) (eU xss S.1 i)).length:Int)=(rnm S.2 (vs.getD i hM)).len:=by
  have:=mV (vs:=S.1++[rnm S.2 (vs.getD i hM)]) hi (i+1) (rz λj hj=>?_) i yae
  ·rw[ae,jy,ae,nF i (λj hj=>im S.1 _ (by rw[E.l1];exact hj))]at this;exact this
  by_cases c:j<i
  ·exact nh (by rw[E.l1];exact c) (E.ok j c)
  rw[show j=i by omega];exact P
 have l:∀o∈eW (rnm S.2 (vs.getD i hM)),((rnm S.2 (vs.getD i hM)).op=2\/(rnm S.2 (vs.getD i hM)).op=3\/(rnm S.2 (vs.getD i hM)).op=4\/(rnm S.2 (vs.getD i hM)).op=5\/(rnm S.2 (vs.getD i hM)).op=6)->o.toNat<i/\(S.1.getD o.toNat hM).len=(rnm S.2 (vs.getD i hM)).len:=by
  intro o av ab;have:=qp P (hU ae ab) o (hU ae av);have hb:=(bZ o av).1;rw[ae,im _ _ (by rw[E.l1];omega)]at this;exact⟨by omega,this⟩
 generalize rnm S.2 _=v at*
 have s:∀o,o∈eW v->(v.op=2\/v.op=3\/v.op=4\/v.op=5\/v.op=6)->(∀k,k<((eU xss S.1 i).getD o.toNat []).length->k<(one xss v (eU xss S.1 i)).length->fb (((eU xss S.1 i).getD o.toNat []).getD k 0)=fb ((one xss v (eU xss S.1 i)).getD k 0))->
   o=(i:Int)\/o.toNat<i/\fU ((eU xss S.1 i).getD o.toNat []) (one xss v (eU xss S.1 i)):=λo av ab O=>by
  obtain⟨B,R⟩:=l o av ab
  have h3:=g _ B
  have ah:((eU xss S.1 i).getD o.toNat []).length=(one xss v (eU xss S.1 i)).length:=xaa
  exact .inr ⟨B,oQ ah λk q=>O k q xaa⟩
 have bin:∀(op:BinOp) (c:Nat),(v.op=2/\op=.add\/v.op=3/\op=.sub\/v.op=4/\op=.mul\/v.op=5/\op=.quo)->fb c=c->(∀x,x<18446744073709551616->fb (cop op x c)=fb x)->isC S.1 v.b c=true->v.a=(i:Int)\/v.a.toNat<i/\fU ((eU xss S.1 i).getD v.a.toNat []) (one xss v (eU xss S.1 i)):=λop c av ai au hi=>by
  have c2:=wO (op:=v.op) xaa
  refine s v.a (gI xaa) xaa λk B R=>?_
  rw[Gi av R]
  obtain⟨N,aA⟩:=l v.b (jm xaa) xaa
  have h3:=g _ N
  have e:=zB (xss:=xss) N hi k xaa
  rw[gL op rfl (e.trans ai.symm)]
  exact(au _ (fx (f _) k)).symm
 have n:∀(op:BinOp) (c:Nat),(v.op=2/\op=.add\/v.op=3/\op=.sub\/v.op=4/\op=.mul\/v.op=5/\op=.quo)->(op=.add\/op=.mul)->fb c=c->(∀x,x<18446744073709551616->fb (cop op x c)=fb x)->isC S.1 v.a c=true->v.b=(i:Int)\/v.b.toNat<i/\fU ((eU xss S.1 i).getD v.b.toNat []) (one xss v (eU xss S.1 i)):=λop c av az ai au hi=>by
  have c2:=wO (op:=v.op) xaa
  refine s v.b (jm xaa) xaa λk B R=>?_
  rw[Gi av R]
  obtain⟨N,aA⟩:=l v.a (gI xaa) xaa
  have h3:=g _ N
  have e:=zB (xss:=xss) N hi k xaa
  rw[gL op (e.trans ai.symm) rfl,Gh az]
  exact(au _ (fx (f _) k)).symm
 unfold gi;by_cases a8:p=1
 ·rw[hK a8];by_cases bb:S.1.findIdx (ij · v)<S.1.length
  ·right;exact qda
  exact xjq
 rw[hJ a8];by_cases z:p=3
 ·rw[hK z];by_cases c:v.op=6/\(S.1.getD v.a.toNat hM).op=6
  ·rw[hK c];right;have ar:1<=cnt v.op:=by rw[c.1];decide
   obtain⟨a1,a2⟩:=l _ (gI ar) xaa;have Y:1<=cnt (S.1.getD v.a.toNat hM).op:=by rw[c.2];decide
   have R:=E.opr _ a1 _ (gI Y);have h3:=qp (E.ok _ a1) xaa _ (gI Y);have bP:=g _ a1;have b8:=g (S.1.getD v.a.toNat hM).a.toNat xaa;refine⟨by omega,oQ xaa λk O=>?_⟩
   have neg:∀u:Vl,u.op=6->∀q,q<(one xss u (eU xss S.1 i)).length->(one xss u (eU xss S.1 i)).getD q 0=Op.negFloat .f64 (((eU xss S.1 i).getD u.a.toNat []).getD q 0):=λu aJ q aq=>by
    unfold one at aq⊢
    rw[aJ]at aq⊢
    rw[hJ xab]at aq⊢
    rw[oy aq]
    rfl
   have a9:=sJ (xss:=xss) a1 (λo av=>(E.opr _ a1 o av).1);rw[neg v c.1 k xaa,a9,neg _ c.2 k (by rw[<-a9];omega),J5 (fx (f _) k)]
  rw[hJ c];left;rfl
 rw[hJ z];by_cases c:(v.op=4\/v.op=5)/\isC S.1 v.b 4607182418800017408=true
 ·rw[hK c];rcases c.1 with d|d
  ·exact bin .mul _ (by simp[d]) xab (λx=>mul_one) c.2
  exact bin .quo _ (by simp[d]) xab (λx=>div_one) c.2
 rw[hJ c];clear c;by_cases c:v.op=4/\isC S.1 v.a 4607182418800017408=true
 ·rw[hK c];exact n .mul _ (by simp[c.1]) (.inr rfl) xab (λx=>mul_one) c.2
 rw[hJ c];clear c;by_cases c:v.op=3/\isC S.1 v.b 0=true
 ·rw[hK c];exact bin .sub _ (by simp[c.1]) xab (λx=>sub_zero) c.2
 rw[hJ c];clear c;by_cases c:v.op=2/\isC S.1 v.b 9223372036854775808=true
 ·rw[hK c];exact bin .add _ (by simp[c.1]) xab (λx=>vy) c.2
 rw[hJ c];clear c;by_cases c:v.op=2/\isC S.1 v.a 9223372036854775808=true
 ·rw[hK c];exact n .add _ (by simp[c.1]) (.inl rfl) xab (λx=>vy) c.2
 rw[hJ c];exact .inl rfl):Zp:=h
open cU in
theorem Bb{S}(E:EqI ins vs i S)(aT:Kb S.1)(au:gZ xss)(hi:inB ins xss=true)(h:okV ins vs i=true)(p):
  gi p S.1 (rnm S.2 (vs.getD i hM)) i=i\/(gi p S.1 (rnm S.2 (vs.getD i hM)) i).toNat<i/\fU ((eU xss S.1 i).getD (gi p S.1 (rnm S.2 (vs.getD i hM)) i).toNat []) (one xss (rnm S.2 (vs.getD i hM)) (eU xss S.1 i)):=by
 have bZ:=qq E h;have P:=AG E h;have f:gZ (eU xss S.1 i):=kr au (λk=>aT.at_ k) i;have g:=mV (vs:=S.1) hi i (rz E.ok);exact qff
theorem Gk{ins xss vs}(au:gZ xss)(hi:inB ins xss=true)(O:Kb vs)(p):∀i,(∀j,j<i->okV ins vs j=true)->∀j,j<i->fU ((eU xss (fh p vs i).1 i).getD ((fh p vs i).2.getD j 0).toNat []) ((eU xss vs i).getD j [])
 |0,_,j,hj=>by omega
 |i+1,h,j,hj=>by
  have ag:=Gk au hi O p i (λj hj=>h j xaa)
  have E:=lz ins vs p i (λj hj=>h j xaa)
  have sv:=Bb (xss:=xss) E (mE O p i) au hi (h i xaa) p
  have f:gZ (eU xss (fh p vs i).1 i):=kr au (λk=>(mE O p i).at_ k) i
  have z:gZ (eU xss vs i):=kr au (λk=>O.at_ k) i
  have av:=B6 (xss:=xss) (tq:=(fh p vs i).2) (v:=vs.getD i hM) f z λo av=>ag _ (hR (jl (h i xaa) o av))
  unfold fh
  generalize fh p vs i=S at*
  have y:=tV xss S.1 (rnm S.2 (vs.getD i hM))
  rw[E.l1]at y
  have g:=iF xss S.1 i
  simp only
  rw[y]
  by_cases c:j<i
  ·have t:=E.to0 j c
   rw[lY _ _ (by rw[E.l2];exact c),o6 _ (hW g),i5 _ _ c]
   exact ag j c
  ·have:j=i:=xaa
   subst this
   have:=kX S.2 (gi p S.1 (rnm S.2 (vs.getD j hM)) j)
   rw[E.l2]at this
   rw[this,jy]
   rcases sv with e|⟨ae,a9⟩
   ·rw[e,pN _ (hW g)]
    exact av
   ·rw[o6 _ (hU g ae)]
    exact gY a9 av
theorem Gl{ins F xss vs}(au:gZ xss)(O:Kb vs)(aL:∀j,j<vs.length->okV ins vs j=true)(bu:∀i,i<vs.length->F.getD i false=true->∀o∈eW (vs.getD i hM),F.getD o.toNat false=true):∀i,i<=vs.length->∀j,j<i->F.getD j false=true->
  fU ((eU xss (iJ F vs i).1 (iJ F vs i).1.length).getD ((iJ F vs i).2.getD j 0).toNat []) ((eU xss vs i).getD j [])
 |0,_,j,hj,_=>by omega
 |i+1,hi,j,hj,bb=>by
  have ag:=Gl au O aL bu i xaa
  have D:=sD aL bu i xaa
  have g:=qG O F i
  rw[iJ]
  by_cases c:F.getD i false=true
  ·rw[hK c]
   generalize iJ F vs i=S at*
   have Z:∀j,j<vs.length->(S.2.set i S.1.length).getD j 0=if i=j then (S.1.length:Int)else S.2.getD j 0:=λj hj=>wQ _ _ _ _ (hU D.l2 hj)
   have f:gZ (eU xss S.1 S.1.length):=kr au (λk=>g.at_ k) _
   have z:gZ (eU xss vs i):=kr au (λk=>O.at_ k) i
   have av:=B6 (xss:=xss) (tq:=S.2.set i S.1.length) (v:=vs.getD i hM) f z λo av=>by
    have hb:=jl (aL i xaa) o av
    rw[Z _ xaa,hJ xaa]
    exact ag _ xaa (bu i xaa c o av)
   simp only[yak,List.length_singleton]
   rw[tV,Z j xaa]
   by_cases e:i=j
   ·subst e
    rw[hK rfl,jy,pN _ (by rw[iF];omega)]
    exact av
   ·have t:=D.to0 j xaa bb
    rw[hJ e,i5 _ _ xaa,o6 _ (by rw[iF];omega)]
    exact ag j xaa bb
  ·rw[hJ c]
   have:j≠i:=λe=>c (e ▸ bb)
   rw[i5 _ _ xaa]
   exact ag j xaa bb
theorem DC{o}(av:o.toNat<i)(h:(us.getD o.toNat hM).op=1)(ah:lenB (us.getD o.toNat hM).len=true):(eU xss us i).getD o.toNat []=rp us o:=by
 rw[sJ av (λq aq=>by unfold eW at aq;rw[h]at aq;simp[cnt]at aq)];unfold one rp;rw[h,hJ xab];unfold iW;rw[hK (by unfold fk;rw[ah];rfl)];refine List.ext_getElem xac λk B R=>?_;simp[fA]
theorem zC{ins xss vs}(au:gZ xss)(O:Kb vs):∀i,(∀j,j<i->okV ins vs j=true)->∀j,j<i->fU ((eU xss (fV vs i) i).getD j []) ((eU xss vs i).getD j [])
 |0,_,j,hj=>by omega
 |i+1,h,j,hj=>by
  have ag:=zC au O i (λj hj=>h j xaa)
  have f:gZ (eU xss (fV vs i) i):=kr au (λk=>(mW O i).at_ k) i
  have z:gZ (eU xss vs i):=kr au (λk=>O.at_ k) i
  have ah:=kE vs i
  have P:=rx (ins:=ins) (vs:=vs) i (λj hj=>h j xaa)
  have aL:=h i xaa
  have bA:=jl aL
  have y:=tV xss (fV vs i) (jk (fV vs i) (vs.getD i hM))
  rw[ah]at y
  rw[fV,y]
  generalize fV vs i=S at*
  by_cases c:j<i
  ·rw[o6 _ (by rw[iF];exact c),i5 _ _ c]
   exact ag j c
  ·have:j=i:=xaa
   subst this
   rw[pN _ (by rw[iF]),jy]
   have aI:=jZ aL
   generalize vs.getD j hM=v at*
   have av:fU (one xss v (eU xss S j)) (one xss v (eU xss vs j)):=ry rfl rfl rfl (λ_=>rfl) (λ_=>rfl) f z (λc=>ag _ (hR (bA _ (gI xaa)))) (λc=>ag _ (hR (bA _ (jm xaa)))) (λc=>ag _ (hR (bA _ (lR xaa))))
   refine gY ?_ av
   unfold jk
   by_cases q:r6 S v=true/\uni (nN S v)=true
   ·rw[hK q]
    obtain⟨aO,aR⟩:=q
    unfold r6 at aO
    rw[Bool.and_eq_true,decide_eq_true_eq,List.all_eq_true]at aO
    have ca:∀o∈eW v,(eU xss S j).getD o.toNat []=rp S o:=λo av=>by
     have hb:=bA o av
     exact DC xaa (beq_iff_eq.1 (aO.2 o av)) (jZ (P _ xaa))
    have a5:one xss v (eU xss S j)=nN S v:=by
     unfold one nN;rw[hJ (λc=>by have:=aO.1;rw[c]at this;exact absurd this xab)];congr 1
     ·by_cases c:0<cnt v.op
      ·rw[hK c,hK c,ca _ (gI xaa)]
      rw[hJ c,hJ c]
     ·by_cases c:1<cnt v.op
      ·rw[hK c,hK c,ca _ (jm xaa)]
      rw[hJ c,hJ c]
     ·by_cases c:2<cnt v.op
      ·rw[hK c,hK c,ca _ (lR xaa)]
      ·rw[hJ c,hJ c]
    rw[a5]
    unfold uni at aR
    rw[Bool.and_eq_true,decide_eq_true_eq,tU]at aR
    have e:(nN S v).length=v.len.toNat:=Gj aR.1
    have lo:one xss ⟨1,v.len,0,0,0,(nN S v).getD 0 0⟩ (eU xss S j)=List.replicate v.len.toNat ((nN S v).getD 0 0):=by
     unfold one;simp only;rw[hJ xab];unfold iW;rw[hK (by unfold fk;rw[aI];rfl)];refine List.ext_getElem xac λk B R=>?_
     simp[fA]
    rw[lo]
    refine oQ (by simp[e]) λk O=>?_
    have ae:k<v.len.toNat:=by simpa using O
    rw[beq_iff_eq.1 (aR.2 k (hU e ae))]
    simp[List.getD_eq_getElem?_getD,ae]
   ·rw[hJ q];rfl
theorem B7(h:k<outs.length):(mI tq outs).getD k 0=tq.getD (outs.getD k 0).toNat 0:=by
 unfold mI;simp[List.getD_eq_getElem?_getD,h]
theorem cF.qcp(h:Zp:=by
 have D:=sD h3 bu vs.length yad;exact⟨D.l1,by simp[pz,mI]⟩):Zp:=h
open cF in
theorem zD(p)(h:okG ins vs outs=true):(gG p vs outs).1.length<=vs.length/\(gG p vs outs).2.length=outs.length:=by
 obtain⟨_,_,h3,a8,_⟩:=gz h;unfold gG;split
 ·exact qco
 split
 ·exact⟨by rw[kE];exact yad,rfl⟩
 exact⟨by unfold eqM;rw[(qo p vs _).1];exact yad,by simp[eqM,mI]⟩
theorem cG.qcp(h:Zp:=by
 unfold pz;simp only;rw[B7 e];exact Gl au O h3 bu vs.length yad _ xaa (tr a8 _ _ (by rw[yah,yal e];exact List.getElem_mem _))):Zp:=h
open cG in
theorem Gm(p)(h:okG ins vs outs=true)(au:gZ xss)(hi:inB ins xss=true)(O:Kb vs)(e:k<outs.length):
  fU ((eU xss (gG p vs outs).1 (gG p vs outs).1.length).getD ((gG p vs outs).2.getD k 0).toNat []) ((eU xss vs vs.length).getD (outs.getD k 0).toNat []):=by
 obtain⟨_,_,h3,a8,_⟩:=gz h;have av:=a8 (outs.getD k 0) (by rw[yah,yal e];exact List.getElem_mem _);unfold gG;split
 ·exact qco
 split
 ·simp only;rw[kE];exact zC au O _ h3 _ xaa
 unfold eqM;simp only;rw[B7 e,(qo p vs _).1];exact Gk au hi O p _ h3 _ xaa
theorem rA{ins xss r us vs}(ah:Lk us vs)(au:∀j,fU (xss.getD j []) (r.getD j []))(bo:gZ xss)(m:gZ r)(an:Kb us)(ao:Kb vs):∀i,(∀j,j<i->okV ins vs j=true)->∀j,j<i->fU ((eU xss us i).getD j []) ((eU r vs i).getD j [])
 |0,_,j,hj=>by omega
 |i+1,h,j,hj=>by
  have ag:=rA ah au bo m an ao i (λj hj=>h j xaa)
  have f:gZ (eU xss us i):=kr bo (λk=>an.at_ k) i
  have z:gZ (eU r vs i):=kr m (λk=>ao.at_ k) i
  by_cases c:j<i
  ·rw[i5 _ _ c,i5 _ _ c]
   exact ag j c
  ·have:j=i:=xaa
   subst this
   rw[jy,jy]
   have bA:=jl (h j xaa)
   have e:=ah.at_ j
   generalize us.getD j hM=u at*
   generalize vs.getD j hM=v at*
   unfold cv at e
   injection e with ae a9 ak e4 bx J
   refine gY (vz (v:=v) ?_) (ry rfl rfl rfl (λ_=>au _) (λ_=>rfl) f z (λc=>ag _ (hR (bA _ (gI xaa)))) (λc=>ag _ (hR (bA _ (jm xaa)))) (λc=>ag _ (hR (bA _ (lR xaa)))))
   unfold ij
   simp[ae,a9,ak,e4,bx,J]
theorem Gn{F}(p)(h:okG ins vs outs=true)(S:Lk F vs)(aJ:Lk us (gG p F outs).1)(au:∀j,fU (xss.getD j []) (r.getD j []))(bo:gZ xss)(m:gZ r)(R:inB ins xss=true)(n:Kb us)(cn:Kb vs)(ak:Kb F)(O:k<outs.length):
  fU ((eU xss us us.length).getD ((gG p F outs).2.getD k 0).toNat []) ((eU r vs vs.length).getD (outs.getD k 0).toNat []):=by
 have B:okG ins F outs=true:=hU S.okG h
 have P:=zy p B;obtain⟨_,_,z,l,_⟩:=gz P;obtain⟨_,_,h3,a8,_⟩:=gz h;have b8:=(zD p B).2;have b1:=l ((gG p F outs).2.getD k 0) (by rw[yah,yal xaa];exact List.getElem_mem _);have bS:=a8 (outs.getD k 0) (by rw[yah,yal O];exact List.getElem_mem _);refine gY ?_ (gY (Gm p B bo R ak O) ?_)
 ·rw[aJ.len];exact rA aJ (λ_=>rfl) bo bo n (Gf p ak) _ z _ xaa
 rw[S.len];exact rA S au bo m ak cn _ h3 _ xaa
end
section
open Go.RowKit Flt
attribute [local go_sem] eG eE eD
theorem P3(w g n c i us)(h:VA w g n us)(hi:i<n)(G:(us.getD i hM).op=6->0<=(us.getD i hM).a/\(us.getD i hM).a<n):
  Calls prog 109 #[hH g n c,hI (i:Nat)] w λe J=>e=.returned (hI (if (us.getD i hM).op=6/\(us.getD (us.getD i hM).a.toNat hM).op=6 then (us.getD (us.getD i hM).a.toNat hM).a else i))/\Kept 0 0 w J:=by
 obtain⟨c0,c1,c2,c3,c4,c5⟩:=h.at_ i hi;have bT:V _:=h;clear h;generalize us.getD i hM=v at*;cases aQ:(v.op==6)
 ·have ae:¬(v.op=6/\(us.getD v.a.toNat hM).op=6):=λq=>by rw[q.1]at aQ;cases aQ
  rw[hJ ae];clear ae G bT;exact xgz
 have bV:v.op=6:=by simpa using aQ
 obtain⟨A,a7,o⟩:∃A:Nat,v.a=A/\A<n:=⟨v.a.toNat,hR (G bV),hR (G bV)⟩
 obtain⟨bD,d1,d2,d3,d4,d5⟩:=bT.o.at_ A o;have aF:=bT.o.lt;have H:=ez 0 0 w (eK v.op v.len v.a v.b v.c v.k);replace bD:=jh H aF bD;replace d2:=jh H aF d2;rw[a7]at c2 bD d2;rw[a7,Int.toNat_natCast];generalize us.getD A hM=u at*;clear bT d1 d3 d4 d5 H G;cases a6:(u.op==6)
 ·have ae:¬(v.op=6/\u.op=6):=λq=>by rw[q.2]at a6;cases a6
  rw[hJ ae];exact xjj
 have ae:v.op=6/\u.op=6:=⟨bV,by simpa using a6⟩
 rw[hK ae];exact xjj
def B8 (us:List Vl)(v:Vl)(i:Nat):Int:=
 if rT v.op=true then (if isC us v.b (kL v.op)=true then v.a else if oU v.op=true/\isC us v.a (kL v.op)=true then v.b else i)else i
theorem Gp(op):fb (kL op)=kL op:=by
 unfold kL;split
 ·decide
 split<;>decide
theorem vA{op}(h:rT op=true):cnt op=2:=wO (hR (of_decide_eq_true h))
theorem Pg(w g n c i us)(h:VA w g n us)(hi:i<n)(q:rT (us.getD i hM).op=true->(0<=(us.getD i hM).a/\(us.getD i hM).a<n)/\(0<=(us.getD i hM).b/\(us.getD i hM).b<n)):
  Calls prog 110 #[hH g n c,hI (i:Nat)] w λe J=>e=.returned (hI (B8 us (us.getD i hM) i))/\Kept 0 0 w J:=by
 obtain⟨c0,c1,c2,c3,c4,c5⟩:=h.at_ i hi;have bT:V _:=h;clear h;generalize us.getD i hM=v at*;have HR:V (∀w,Calls prog 111 #[hI v.op] w λe J=>e=.returned (.tuple #[.float .f64 (kL v.op),.bool (rT v.op)])/\J=w):=CX v.op;have HE:V (∀w,Calls prog 113 #[hI v.op] w λe J=>e=.returned (.bool (oU v.op))/\J=w):=Fc v.op;have p:=Gp v.op;unfold B8;cases aJ:rT v.op
 ·rw[hJ xac];rw[aJ]at HR;clear q bT HE p;go_enter func110,ntmps110;go_wp2_with (go_at_call 111;refine yai (HR.o _) ?_;rintro e af ⟨rfl,rfl⟩);go_ret;exact⟨rfl,ez _ _ _ _⟩
 rw[hK rfl];rw[aJ]at HR;obtain⟨⟨bw,a1⟩,bb,N⟩:=q aJ;obtain⟨A,a7,o⟩:∃A:Nat,v.a=A/\A<n:=⟨v.a.toNat,by omega,by omega⟩
 obtain⟨I,aS,s⟩:∃I:Nat,v.b=I/\I<n:=⟨v.b.toNat,by omega,by omega⟩
 have m:V (∀w,Calls prog 112 #[(us.getD I hM).agg,.float .f64 (kL v.op)] w λe J=>e=.returned (.bool (isC us v.b (kL v.op)))/\Kept 0 0 w J):=λw=>by
  have:=uT w (us.getD I hM) (kL v.op)
  rw[p]at this
  unfold isC
  rw[aS,Int.toNat_natCast]
  exact this
 have l:V (∀w,Calls prog 112 #[(us.getD A hM).agg,.float .f64 (kL v.op)] w λe J=>e=.returned (.bool (isC us v.a (kL v.op)))/\Kept 0 0 w J):=λw=>by
  have:=uT w (us.getD A hM) (kL v.op)
  rw[p]at this
  unfold isC
  rw[a7,Int.toNat_natCast]
  exact this
 clear bw a1 bb N q p;generalize isC us v.b (kL v.op)=t at m⊢;generalize isC us v.a (kL v.op)=bc at l⊢;generalize kL v.op=x at HR l m;obtain⟨f,j,y,r,u,X⟩:=v;simp only at a7 aS c0 c1 c2 c3 c4 c5 HR HE l m aJ⊢;subst a7 aS;have H:=ez 0 0 w (eK f j A I u X);have aF:=bT.o.lt;have bv:V (At (w.alloc (eK f j A I u X)) w.heap.size 0 ⟨f,j,A,I,u,X⟩):=jF w ⟨f,j,A,I,u,X⟩;have bf:V _:=(bT.o.at_ A o).keep aF H yaa;have aI:V _:=(bT.o.at_ I s).keep aF H yaa;have cd:V (w.heap.size<(w.alloc (eK f j A I u X)).heap.size/\g<(w.alloc (eK f j A I u X)).heap.size):=⟨by simp,yaj aF H.size⟩
 have bo:V _:=H;generalize oU f=cf at HE⊢;generalize us.getD A hM=aj at bf l;generalize us.getD I hM=ap at aI m;clear bT H aF aJ;obtain⟨s0,ax,aN,bC,cp,au⟩:=aI.o;go_enter func110,ntmps110;go_wp2_with (first|(go_at_call 111;refine yai (HR.o _) ?_;rintro e af ⟨rfl,rfl⟩)|fail);generalize w.alloc (eK f j A I u X)=aB at bv bf aI cd bo⊢;clear c0 c1 c2 c3 c4 c5 s0 ax aN bC cp au aI;refine yai (m.o _) ?_;rintro e af ⟨rfl,ao⟩;obtain⟨bL,bI,bJ,cb,ci,bx⟩:=bv.o.keep cd.o.1 ao yaa;obtain⟨bj,aQ,a6,bK,b1,bY⟩:=bf.o.keep cd.o.2 ao yaa;have bN:V _:=bo.o.trans ao;have cJ:V (w.heap.size<af.heap.size):=yaj cd.o.1 ao.size;clear ao bv bf cd bo;cases t
 ·cases cf
  ·go_wp2_with (go_at_call 113;refine yai (HE.o _) ?_;rintro e aX ⟨rfl,rfl⟩);go_ret;exact⟨rfl,bN.o⟩
  go_wp2_with (first|(go_at_call 113;refine yai (HE.o _) ?_;rintro e aX ⟨rfl,rfl⟩)|fail);refine yai (l.o _) ?_;rintro e aX ⟨rfl,aM⟩;have bW:=jh aM cJ.o cb;have aV:V _:=bN.o.trans aM;clear aM;cases bc
  ·go_wp2;go_ret;exact⟨rfl,aV.o⟩
  go_wp2;go_ret;exact⟨rfl,aV.o⟩
 go_wp2;go_ret;exact⟨rfl,bN.o⟩
end
section
open Go.RowKit Flt Go.Maps
variable {u v:Vl}{us:List Vl}
def pC (v:Vl):Nat:=if v.op=1 then fb v.k else 0
def pD (v:Vl):Value:=.agg #[.int .i64 v.op,.int .i64 v.len,.int .i64 v.a,.int .i64 v.b,.int .i64 v.c,.int .u64 (pC v:Nat)]
def gJ (v:Vl):Lit:=.string (keyBytes [.int .i64 v.op,.int .i64 v.len,.int .i64 v.a,.int .i64 v.b,.int .i64 v.c,.int .u64 (pC v:Nat)])
structure Wf (v:Vl):Prop where
 op:(Lit.int .i64 v.op).wf=true
 len:(Lit.int .i64 v.len).wf=true
 a:(Lit.int .i64 v.a).wf=true
 b:(Lit.int .i64 v.b).wf=true
 c:(Lit.int .i64 v.c).wf=true
 k:(Lit.int .u64 (pC v:Nat)).wf=true
theorem Gq:laidOutB prog=true:=by kernel_rfl
theorem Ph:(137:TypeId)<prog.types.size:=of_decide_eq_true (by kernel_rfl)
theorem Pi:(match prog.underlying 137 with|some (.array _ _)|some (.struct _)=>true|_=>false)=true:=by kernel_rfl
theorem lawL:WideMaps.KeyLaw prog 137:=deep_law_laid Gq (m:=2) xaa Ph (by kernel_rfl) Pi
theorem Bd:Keyed prog 137:=Keyed.of_law lawL
theorem Gt:prog.keyType 137=true:=by kernel_rfl
theorem Gu:prog.cellsOf 137=6:=by kernel_rfl
theorem NB:prog.cellsOf 3=1:=by kernel_rfl
theorem ND:prog.cellsOf 127=1:=by kernel_rfl
theorem Pj:∃m,prog.types.size=m+1:=Nat.exists_eq_succ_of_ne_zero (Nat.ne_of_gt (Nat.lt_of_le_of_lt (Nat.zero_le _) Ph))
theorem LP(w):(zeroValue 3).run prog w=.ok (hI 0) w:=by kernel_rfl
theorem xL(h:Wf v):keyOf prog 137 (pD v)=some (gJ v):=by
 obtain⟨m,az⟩:=Pj;unfold keyOf;simp only[underlying137];rw[hK (by rw[Gt];simp[Value.formed,underlying137,pD,Gu]),az];unfold Program.keyLits;simp only[underlying137,pD,Value.cells];rw[hK ⟨by rw[Gu];rfl,by kernel_rfl⟩];simp[NB,ND,Program.keyLits,underlying3,underlying127,h.op,h.len,h.a,h.b,h.c,h.k,gJ]
theorem DD(aJ:Wf u)(aL:Wf v)(h:gJ u=gJ v):pD u=pD v:=lawL.inj (xL aJ) (by rw[h];exact xL aL)
theorem oz(aJ:Wf u)(aL:Wf v):gJ u=gJ v↔ij u v=true:=by
 constructor
 ·intro h;have:=DD aJ aL h;unfold pD at this;simp only[Value.agg.injEq,Array.mk.injEq,List.cons.injEq,Value.int.injEq,true_and,and_true]at this;obtain⟨ae,a9,ak,e4,bx,J⟩:=this;unfold pC at J;unfold ij;rw[ae,a9,ak,e4,bx];simp only[beq_self_eq_true,Bool.true_and];rw[ae]at J;by_cases c:v.op=1
  ·rw[hK c,hK c]at J;simp[Int.ofNat_inj.1 J]
  simp[c]
 intro h;unfold ij at h;simp only[Bool.and_eq_true,beq_iff_eq,Bool.or_eq_true,bne_iff_ne]at h;obtain⟨⟨ae,a9,ak,e4,bx⟩,J⟩:=h
 have ai:pC u=pC v:=by
  unfold pC;rw[ae];by_cases c:v.op=1
  ·rw[hK c,hK c];rcases J with J|J
   ·exact absurd (ae.trans c) J
   exact J
  rw[hJ c,hJ c]
 unfold gJ;rw[ae,a9,ak,e4,bx,ai]
def km (us:List Vl):Nat->DataW Unit
 |0=>.map []
 |i+1=>if has (km us i) (gJ (us.getD i hM))=true then km us i else (km us i).put (gJ (us.getD i hM)) (.lit (.int .i64 (i:Nat)))
theorem Gv(v):WideAt.IsKeyLit (gJ v):=by unfold gJ;trivial
theorem qH(us):∀i,IsMap (km us i)
 |0=>isMap_empty
 |i+1=>by
  rw[km]
  split
  ·exact qH us i
  ·exact(qH us i).put _ _
theorem vB{i}(e:gJ v≠gJ (us.getD i hM)):has (km us (i+1)) (gJ v)=has (km us i) (gJ v)/\∀z,(km us (i+1)).atKey (gJ v) z=(km us i).atKey (gJ v) z:=by
 rw[km];split
 ·exact⟨rfl,λ_=>rfl⟩
 exact⟨has_put_other e _,λz=>atKey_put_other e _ z⟩
theorem oA(us v):∀i,has (km us i) (gJ v)=true↔∃j,j<i/\gJ (us.getD j hM)=gJ v
 |0=>by simp[km,has]
 |i+1=>by
  have ag:=oA us v i
  by_cases e:gJ v=gJ (us.getD i hM)
  ·have r:∃j,j<i+1/\gJ (us.getD j hM)=gJ v:=⟨i,yae,e.symm⟩
   simp only[r,iff_true]
   rw[km]
   split
   ·rename_i h;rw[e];exact h
   ·rw[e];exact has_put_same (qH us i) (Gv _) _
  ·rw[(vB e).1,ag]
   constructor
   ·rintro⟨j,hj,h⟩
    exact⟨j,by omega,h⟩
   ·rintro⟨j,hj,h⟩
    by_cases c:j=i
    ·subst c;exact absurd h.symm e
    ·exact⟨j,by omega,h⟩
theorem B9(us v j)(hj:gJ (us.getD j hM)=gJ v)(bb:∀q,q<j->gJ (us.getD q hM)≠gJ v)(z):∀i,j<i->(km us i).atKey (gJ v) z=.lit (.int .i64 (j:Nat))
 |0,h=>by omega
 |i+1,h=>by
  by_cases c:j=i
  ·subst c
   have hn:has (km us j) (gJ (us.getD j hM))=false:=by
    cases aq:has (km us j) (gJ (us.getD j hM))
    ·rfl
    ·obtain⟨q,B,R⟩:=(oA us _ j).1 aq
     exact absurd (R.trans hj) (bb q B)
   rw[km,hn,hJ xac,<-hj]
   exact atKey_put_same (qH us j) (Gv _) _ _
  ·have ag:=B9 us v j hj bb z i xaa
   by_cases e:gJ v=gJ (us.getD i hM)
   ·rw[km,hK ((oA us _ i).2 ⟨j,by omega,hj.trans e⟩)]
    exact ag
   ·rw[(vB e).2]
    exact ag
theorem DE(aJ:∀j,j<us.length->Wf (us.getD j hM))(aL:Wf v):
  (has (km us us.length) (gJ v)=false/\us.findIdx (ij · v)=us.length)\/
  (has (km us us.length) (gJ v)=true/\us.findIdx (ij · v)<us.length/\∀z,(km us us.length).atKey (gJ v) z=.lit (.int .i64 (us.findIdx (ij · v):Nat))):=by
 have f:∀{q:Nat} (h:q<us.length),us[q]=us.getD q hM:=λ{q} h=>by
  rw[yah,yal h];rfl
 rcases Nat.lt_or_ge (us.findIdx (ij · v)) us.length with c|c
 ·right
  have B:ij (us.getD (us.findIdx (ij · v)) hM) v=true:=by
   have:=List.findIdx_getElem (w:=c);rw[f c]at this;exact this
  have R:∀q,q<us.findIdx (ij · v)->gJ (us.getD q hM)≠gJ v:=λq aq e=>by
   have:=List.not_of_lt_findIdx aq
   rw[f xaa]at this
   exact absurd ((oz (aJ q xaa) aL).1 e) (by simpa using this)
  have h3:=(oz (aJ _ c) aL).2 B;exact⟨(oA us v _).2 ⟨_,c,h3⟩,c,λz=>B9 us v _ h3 R z _ c⟩
 left;have e:us.findIdx (ij · v)=us.length:=Nat.le_antisymm (List.findIdx_le_length) c;refine⟨?_,e⟩;cases aq:has (km us us.length) (gJ v)
 ·rfl
 obtain⟨q,B,R⟩:=(oA us v _).1 aq;have:=List.not_of_lt_findIdx (p:=(ij · v)) (xs:=us) (i:=q) xaa;rw[f B]at this;exact absurd ((oz (aJ q B) aL).1 R) (by simpa using this)
theorem DF:km (us++[v]) (us.length+1)=if has (km us us.length) (gJ v)=true then km us us.length else (km us us.length).put (gJ v) (.lit (.int .i64 (us.length:Nat))):=by
 have e:∀i,i<=us.length->km (us++[v]) i=km us i:=by
  intro i;induction i with
  |zero=>intro _;rfl
  |succ i ag=>
   intro h;rw[km,km,ag xaa,im _ _ xaa]
 rw[km,e _ yad,gX]
end
section
open Go.RowKit Flt
attribute [local go_sem] eG eE eD
variable {outs:List Int}{k:Nat}
theorem qI(tq outs):(mI tq outs).length=outs.length:=by simp[mI]
theorem Gx{tq}(O:k<outs.length):((mI tq outs).take k++outs.drop k).set k (tq.getD (outs.getD k 0).toNat 0)=(mI tq outs).take (k+1)++outs.drop (k+1):=by
 have e:=uR (mI tq outs) outs k (by rw[qI];exact O) (by rw[qI])
 have:(mI tq outs).getD k 0=tq.getD (outs.getD k 0).toNat 0:=by
  unfold mI;rw[yah,List.getElem?_map,yal O,yah (l:=outs),yal O];rfl
 rw[this]at e;exact e
theorem J6{bd:List Int}(O:k<outs.length)(bV:bd.length=outs.length):(bd.take k++outs.drop k).getD k 0=outs.getD k 0:=by
 rw[yah,yar yaf,yah,List.getElem?_drop];congr 2;simp;omega
theorem r7(F)(s:List Int)(O:k<s.length):jz F (s.take (k+1))=(jz F (s.take k)).set (s.getD k 0).toNat true:=by
 unfold jz;rw[yat O,List.foldl_append,yah,yal O];rfl
theorem zE{vs b}(hb:(ndI vs outs k).getD (vs.length-1-k) false=b):ndI vs outs (k+1)=if b=true then jz (ndI vs outs k) (eW (vs.getD (vs.length-1-k) hM))else ndI vs outs k:=by
 rw[ndI,hb]
end
section
open Go.RowKit Flt
attribute [local go_sem] eG eE eD
attribute [local go_sem ↓] Go.wp_at_zero Go.wp_at_succ
variable {us vs:List Vl}{tq:List Int}{i n r:Nat}{S:Nat->Prop}
theorem IR.isAt{w g xs}(h:IR w g xs)(ah:xs.length=n):IS w g (g+1) (some ⟨g,0,none⟩) n xs:=
 ⟨ah,.inr ⟨g,0,rfl,yad,yae,h.lt,λk O=>by rw[Nat.zero_add];exact h.cell k xaa⟩⟩
theorem Chg.refl(S w):Chg S w w:=(Kept.refl 0 0 w).chg
theorem xM(ah:us.length=i):(us++vs.drop i).getD i hM=vs.getD i hM:=by
 rw[yah,yar xaa,yah,List.getElem?_drop];congr 2;omega
theorem sK{v}(ah:us.length=i)(hi:i<vs.length):(us++vs.drop i).set i v=us++[v]++vs.drop (i+1):=by
 subst ah;rw[uU hi,BN];simp
theorem RB.keepC{W W' p bb N aA}(t:RB W p bb N aA)(k:Chg S W W')(aV:¬S p):RB W' p bb N aA:=by
 have e:∀o,_:=λo=>k.cell (p:=⟨p,o,none⟩) t.sz aV;have f:∀o,_:=λo=>k.frozen (p:=⟨p,o,none⟩) t.sz aV;exact⟨yaj t.sz k.size,hU e t.q0,hU e t.q1,hU e t.q2,hU f t.f0,hU f t.f1,hU f t.f2⟩
theorem Be{P}{F:Nat}{s args}{z f:World->Prop}{Vaa:World->Prop}(h:∀W,i<n->z W->Vaa W->Calls P F args W λe J=>e=.returned (hI s)/\Chg S W J/\f J)(aF:i<n)(ay:s=(r:Nat)):∀W,z W->Vaa W->Calls P F args W λe J=>e=.returned (hI (r:Nat))/\Chg S W J/\f J:=by
 subst ay;exact λW B R=>h W aF B R
theorem Bf{a r}(ah:tq.length=i)(hi:i<n):((tq++List.replicate (n-i) 0).set i a).set i r=(tq++[r])++List.replicate (n-(i+1)) 0:=by
 subst ah;have e:n-tq.length=(n-(tq.length+1))+1:=xaa;rw[e,List.replicate_succ,List.set_set,BN];simp
theorem Gy(ah:tq.length=i)(hi:i<n)(ay:r<=i)(h:r<i->tq.getD r 0=(r:Int)):((tq++List.replicate (n-i) 0).set i (i:Nat)).getD r 0=(r:Int):=by
 rw[wQ _ _ _ _ yaf];by_cases c:i=r
 ·rw[hK c,c]
 rw[hJ c,<-h xaa,yah,yas xaa,<-yah]
end
section
open Go.RowKit Flt
theorem DH{ins vs i}(h:okV ins vs i=true)(hi:i<=2000)(ah:ins.length<=20)(b4:∀j,j<i->lenB (vs.getD j hM).len=true):
  (0<=(vs.getD i hM).op/\(vs.getD i hM).op<=13)/\(0<=(vs.getD i hM).len/\(vs.getD i hM).len<=2000)/\(0<=(vs.getD i hM).a/\(vs.getD i hM).a<=2000)/\(0<=(vs.getD i hM).b/\(vs.getD i hM).b<=2000)/\(0<=(vs.getD i hM).c/\(vs.getD i hM).c<=2000):=by
 have bZ:=wR h;have bf:=of_decide_eq_true (jZ h);have bV:=jl h;have a7:1<=cnt (vs.getD i hM).op->0<=(vs.getD i hM).a/\(vs.getD i hM).a<i:=λc=>bV _ (gI c);have aS:2<=cnt (vs.getD i hM).op->0<=(vs.getD i hM).b/\(vs.getD i hM).b<i:=λc=>bV _ (jm c);have ap:3<=cnt (vs.getD i hM).op->0<=(vs.getD i hM).c/\(vs.getD i hM).c<i:=λc=>bV _ (lR c);unfold okV at h;generalize aL:vs.getD i hM=v at*;rw[Bool.and_eq_true,Bool.and_eq_true]at h;obtain⟨⟨_,U⟩,l⟩:=h
 have f:cnt v.op<1->v.op≠0->v.a=0:=λc c0=>by
  unfold gg at U
  by_cases e:v.a=0
  ·exact e
  ·simp[c,c0,e]at U
 have g:cnt v.op<2->v.b=0:=λc=>by
  unfold gg at U
  by_cases e:v.b=0
  ·exact e
  ·simp[c,e]at U
 have c9:cnt v.op<3->iX v.op=false->v.c=0:=λc bR=>by
  unfold gg at U
  by_cases e:v.c=0
  ·exact e
  ·simp[c,bR,e]at U
 have m:v.op=0->0<=v.a/\v.a<ins.length:=λc=>by
  rw[hK c,Bool.and_eq_true]at l
  exact of_decide_eq_true l.1
 have cN:iX v.op=true->0<=v.c/\v.c<=1000:=λc=>by
  have aK:=of_decide_eq_true c
  rw[hJ xaa,Bool.and_eq_true]at l
  have ad:=l.2
  unfold eR at ad
  have c1:cnt v.op=1:=by rcases aK with e|e<;>rw[e]<;>decide
  have G:=a7 xaa
  have ao:=of_decide_eq_true (b4 v.a.toNat xaa)
  have bl:((eW v).map λo=>(vs.getD o.toNat hM).len).getD 0 0=(vs.getD v.a.toNat hM).len:=by
   unfold eW
   rw[c1]
   rfl
  rcases aK with e|e
  ·rw[hJ xaa,hJ xaa,hK e,Bool.and_eq_true,bl]at ad
   have:=of_decide_eq_true ad.2
   omega
  ·rw[hJ xaa,hJ xaa,hJ xaa,hK e,Bool.and_eq_true]at ad
   have:=of_decide_eq_true ad.2
   omega
 refine⟨bZ,by omega,?_,?_,?_⟩
 ·by_cases c:1<=cnt v.op
  ·have:=a7 c;omega
  by_cases c0:v.op=0
  ·have:=m c0;omega
  have:=f xaa c0;omega
 ·by_cases c:2<=cnt v.op
  ·have:=aS c;omega
  have:=g xaa;omega
 by_cases c:3<=cnt v.op
 ·have:=ap c;omega
 cases aK:iX v.op
 ·have:=c9 xaa aK;omega
 have:=cN aK;omega
end
section
open Go.RowKit Flt Go.Maps
attribute [local go_sem] eG eE eD
variable {x i:Nat}{A aa:List Vl}
theorem DJ{x}(h:0<=x/\x<=2000):(Lit.int .i64 x).wf=true:=by
 have ae:IntKind.i64.min=-9223372036854775808:=xab;have a9:IntKind.i64.max=9223372036854775807:=xab;show(decide (IntKind.i64.min<=x)&&decide (x<=IntKind.i64.max))=true;exact xjg
theorem NF(h:x<18446744073709551616):fb x<18446744073709551616:=by
 unfold fb;split
 ·decide
 exact h
theorem wfU(h:x<18446744073709551616):(Lit.int .u64 (x:Nat)).wf=true:=by
 have ae:IntKind.u64.min=0:=xab;have a9:IntKind.u64.max=18446744073709551615:=xab;show(decide (IntKind.u64.min<=(x:Int))&&decide ((x:Int)<=IntKind.u64.max))=true;exact xjg
theorem NG{ins vs}(h:okV ins vs i=true)(hi:i<=2000)(ah:ins.length<=20)(b4:∀j,j<i->lenB (vs.getD j hM).len=true)(O:(vs.getD i hM).k<18446744073709551616):Wf (vs.getD i hM):=by
 obtain⟨aj,B,R,h3,a8⟩:=DH h hi ah b4;refine⟨DJ xaa,DJ B,DJ R,DJ h3,DJ a8,wfU ?_⟩;unfold pC;split
 ·exact NF O
 decide
theorem xN{nv o}(ah:A.length=i)(av:o<i):(A++[nv]++aa).getD o hM=A.getD o hM:=by
 rw[List.append_assoc,yah,yas xaa,<-yah]
theorem qJ{nv}(ah:A.length=i):(A++[nv]++aa).getD i hM=nv:=by
 subst ah;rw[List.append_assoc,yah,yar yad,Nat.sub_self];rfl
theorem J7{nv}(ah:A.length=i)(hn:∀o∈eW nv,0<=o/\o<i):
  (if nv.op=6/\((A++[nv]++aa).getD nv.a.toNat hM).op=6 then ((A++[nv]++aa).getD nv.a.toNat hM).a else (i:Int))=gi 3 A nv i:=by
 unfold gi;rw[hJ (by decide:¬(3:Int)=1),hK (rfl:(3:Int)=3)];by_cases c:nv.op=6
 ·have:=hn _ (gI (v:=nv) (by rw[c];decide));rw[xN ah xaa]
 rw[hJ (λh=>c h.1),hJ (λh=>c h.1)]
theorem Gz{nv}(ah:A.length=i)(hn:∀o∈eW nv,0<=o/\o<i):B8 (A++[nv]++aa) nv i=gi 4 A nv i:=by
 unfold gi B8;rw[hJ (by decide:¬(4:Int)=1),hJ (by decide:¬(4:Int)=3)];cases aJ:rT nv.op
 ·have:=of_decide_eq_false aJ;rw[hJ xac,hJ xaa,hJ xaa,hJ xaa,hJ xaa,hJ xaa]
 have ai:=vA aJ;have G:=hn _ (gI (v:=nv) xaa);have hb:=hn _ (jm (v:=nv) xaa);have b1:∀k,isC (A++[nv]++aa) nv.a k=isC A nv.a k:=λk=>by unfold isC;rw[xN ah xaa]
 have cf:∀k,isC (A++[nv]++aa) nv.b k=isC A nv.b k:=λk=>by unfold isC;rw[xN ah xaa]
 rw[hK rfl,b1,cf];have av:=of_decide_eq_true aJ;unfold kL oU;rcases av with e|e|e|e
 all_goals simp[e]
theorem rB(p vs i):(fh p vs (i+1)).1++vs.drop (i+1)=(fh p vs i).1++[rnm (fh p vs i).2 (vs.getD i hM)]++vs.drop (i+1):=rfl
end
section
open Go.RowKit Flt
attribute [local go_sem] eG eE eD
variable {F:List Bool}{W' bm:World}{vs:List Vl}{T i U base gk cap:Nat}{S:List Vl×List Int}
structure DI (W w4:World)(T n2 base gk cap:Nat)(S:List Vl×List Int):Prop where
 tq:IR W T S.2
 tl:S.2.length=n2
 own:W.ownsRow base 53 6 (.slice (some ⟨gk,0,none⟩) S.1.length cap) S.1.length (fQ S.1)
 ch:Chg (λb=>b=T\/base<=b) w4 W
 bz:base<=W.heap.size
theorem tW(F vs):∀i,(iJ F vs i).2.length=vs.length/\(iJ F vs i).1.length<=i
 |0=>⟨by simp[iJ],yad⟩
 |i+1=>by
  obtain⟨B,R⟩:=tW F vs i
  rw[iJ]
  split
  ·exact⟨by simp[B],by simp;omega⟩
  ·exact⟨B,by omega⟩
theorem DI.stay{W}(f:DI W bm T U base gk cap S)(k:Kept 0 0 W W'):DI W' bm T U base gk cap S:=
 ⟨f.tq.keep k yaa,f.tl,e8 f.own k,Chg.trans f.ch k.chg,yan f.bz k.size⟩
theorem DI.next{W H bo g9 cap9 x nv o}(f:DI W bm T U base gk cap S)(k:Kept 0 0 W W')(b0:Kept 0 0 (W'.setCell ⟨T,i,none⟩ (hI x)) H)(bi:T<base)
  (aT:bo.ownsRow base 53 6 (hH g9 (S.1.length+1) cap9) (S.1.length+1) (fQ S.1++nv.cells)) (aW:(H.alloc o).grownBy bo (some gk)) (ar:base<=gk):DI bo bm T U base g9 cap9 (S.1++[nv],S.2.set i x):=by
 have s:=eX (lo:=T) (hi:=T+1) W' ⟨T,i,none⟩ (hI x) yac;have bH:=ez 0 0 H o;have aQ:=(((f.tq.keep k yaa).set i x).keep b0 yaa).keep bH yaa;have bE:Chg (λb=>b=gk) (H.alloc o) bo:=⟨aW.os,aW.tape,aW.output,aW.size,λq aq hn=>aW.block q aq (λc=>hn (hL c))⟩
 refine⟨aQ.keepC bE xaa,by simp[f.tl],?_,?_,?_⟩
 ·rw[yak,List.length_singleton,lH,nZ];exact aT
 ·refine Chg.trans f.ch (Chg.trans k.chg (Chg.trans (s.chg1 (.inl rfl)) (Chg.trans b0.chg (Chg.trans bH.chg (bE.mono λb _ c=>.inr xaa)))))
 have B:=f.bz;have R:=k.size;have h3:=s.size;have a8:=b0.size;have bQ:=bH.size;have bV:=bE.size;omega
theorem GD(w:World)(bb N aA):RB (w.alloc (.cells #[bb,N,aA] 26)) w.heap.size bb N aA:=by
 exact xkf
theorem J8(h:F.getD i false=true):iJ F vs (i+1)=((iJ F vs i).1++[rnm ((iJ F vs i).2.set i (iJ F vs i).1.length) (vs.getD i hM)],(iJ F vs i).2.set i (iJ F vs i).1.length):=by
 rw[iJ,hK h]
theorem zG(h:F.getD i false=false):iJ F vs (i+1)=iJ F vs i:=by
 rw[iJ,hJ (by rw[h];simp)]
end
section
open Go.RowKit Flt Go.Maps
attribute [local go_sem] eG eE eD
variable {w J:World}
theorem Bg(w v):Calls prog 106 #[v.agg] w λe J=>e=.returned (pD v)/\Kept 0 0 w J:=by
 have aP:V (∀w,Calls prog 133 #[.float .f64 v.k] w λe J=>e=.returned (.int .u64 (fb v.k:Nat))/\J=w):=sR v.k;unfold pD pC;have aM:∀(o j f:Obj),Kept 0 0 w (((w.alloc o).alloc j).alloc f):=λo j f=>((ez 0 0 w o).trans (ez 0 0 _ j)).trans (ez 0 0 _ f);have aV:V _:=aM;clear aM;by_cases h:v.op=1
 ·rw[hK h];have t:(v.op==1)=true:=by simp[h]
  clear h;go_enter func106,ntmps106;go_wp2_with ((go_at_call 133;refine yai (aP.o _) ?_;rintro e af ⟨rfl,rfl⟩));exact yay (v:=.agg #[hI v.op,hI v.len,hI v.a,hI v.b,hI v.c,.int .u64 (fb v.k:Nat)]) (by simp[results,results106,go_sem]) rfl ⟨rfl,aV.o _ _ _⟩
 rw[hJ h];have t:(v.op==1)=false:=yam h;clear h;go_enter func106,ntmps106;go_wp2;exact yay (v:=.agg #[hI v.op,hI v.len,hI v.a,hI v.b,hI v.c,.int .u64 0]) (by simp[results,results106,go_sem]) rfl ⟨rfl,aV.o _ _ _⟩
theorem DK{b}(h:w.grownBy J (some b)):Chg (λi=>i=b) w J:=
 ⟨h.os,h.tape,h.output,h.size,λk O hn=>h.block k O (λc=>hn (hL c))⟩
theorem xO{k aa b n}{D:DataW Unit}(h:w.ownsMap prog k aa b n D)(e:J.heap[b]? =w.heap[b]?):J.ownsMap prog k aa b n D:=by
 obtain⟨es,aV,B,R⟩:=h;exact⟨es,aV,hU e B,R⟩
structure CI (W:World)(FB B i:Nat)(us:List Vl):Prop where
 lt:FB<W.heap.size
 box:W.cell? ⟨FB,0,none⟩=some (.map (some B))
 own:W.ownsMap prog 137 (plainElem (H:=Unit) prog 3) B i (km us i)
theorem CI.keepC{W W' S bq I i us}(h:CI W bq I i us)(k:Chg S W W')(B:¬S bq)(R:¬S I):CI W' bq I i us:=
 ⟨yaj h.lt k.size,by rw[k.cell (p:=⟨bq,0,none⟩) h.lt B];exact h.box,xO h.own (k.block I h.own.lt R)⟩
theorem Pk{i}(h:i<=2000):(Lit.int .i64 (i:Nat)).wf=true:=DJ xaa
theorem P4(W g n c i bq I A aa nv)(z:VA W g n (A++[nv]++aa))(ah:A.length=i)(hi:i<n)(hn:n<=2000)(bB:CI W bq I i A)(bT:bq≠I)(aJ:∀j,j<A.length->Wf (A.getD j hM))(aL:Wf nv):
  Calls prog 105 #[hH g n c,hI (i:Nat),hG bq] W λe J=>e=.returned (hI (A.findIdx (ij · nv):Nat))/\Chg (λb=>b=I) W J/\CI J bq I (i+1) (A++[nv]):=by
 have bg:=z.at_ i hi;rw[qJ ah]at bg;have bb:=DE aJ aL;rw[ah]at bb;have ad:=DF (us:=A) (v:=nv);rw[ah]at ad;have f:=xL aL;have bX:V _:=bB;have aw:V _:=ad;have cR:V (∀w,Calls prog 106 #[nv.agg] w λe J=>e=.returned (pD nv)/\Kept 0 0 w J):=λw=>Bg w nv;unfold pD at cR f;have q:=Pk (i:=i) xaa;clear z bB ad aL aJ;obtain⟨bh,aU,aY,bW,b9,cj⟩:=bg;generalize aq:pC nv=r at cR f;clear aq;generalize A.findIdx (ij · nv)=h at bb⊢;generalize gJ nv=l at f bb aw;have m:V _:=f;clear f ah;go_enter func105,ntmps105;go_wp2_with fail;clear bh aU aY bW b9 cj;refine yai (cR.o W) ?_;rintro e af ⟨rfl,ao⟩;have bH:=ez 0 0 af (.cells #[hI nv.op,hI nv.len,hI nv.a,hI nv.b,hI nv.c,.int .u64 r] 137);have p:V _:=CI.keepC (S:=λ_=>False) bX.o (ao.trans bH).chg id id;have aV:V _:=ao.trans bH;have bL:=p.o.box;rcases bb with⟨B,R⟩|⟨B,R,h3⟩
 ·rw[B,hJ xac]at aw;have HO:V _:=p.o.own;have ce:h=i:=R;subst ce
  go_wp2_with (first
   |(at_lookup;refine wpList_lookup_own_ok_int _ rfl _ _ 134 rfl 137 3 .i64 Bd underlying134 underlying3 (LP _) I h _ rfl HO.o _ _ rfl m.o ?_;intro c bg o)
   |(at_mapUpdate;refine wpList_mapUpdate_own _ rfl _ _ _ 134 rfl 137 3 Bd underlying134 (plainElem (H:=Unit) prog 3) I h _ rfl HO.o (by unfold maxLen;omega) _ _ _ rfl rfl m.o _ [] (plainElem_int underlying3 q) ?_;intro bA H ba))
  go_ret;have bE:=DK ba;refine⟨rfl,Chg.trans aV.o.chg bE,⟨yaj p.o.lt bE.size,?_,?_⟩⟩
  ·rw[bE.cell (p:=⟨bq,0,none⟩) p.o.lt bT];exact p.o.box
  rw[aw.o];exact H
 rw[B,hK rfl]at aw;have HO:V _:=p.o.own;have H3:V _:=h3 (.lit (.int .i64 0));clear h3;go_wp2_with ((at_lookup;refine wpList_lookup_own_ok_int _ rfl _ _ 134 rfl 137 3 .i64 Bd underlying134 underlying3 (LP _) I i _ rfl HO.o _ _ rfl m.o ?_;intro c bg o;have ct:V _:=bg;clear bg o));go_ret
 have aQ:c=(h:Nat):=by
  have:=ct.o.symm.trans H3.o;injection this with this;injection this
 refine⟨hX aQ,aV.o.chg,⟨p.o.lt,p.o.box,?_⟩⟩;rw[aw.o];exact World.ownsMap.mono HO.o (Nat.le_succ i)
end
section
open Go.RowKit Flt
attribute [local go_sem] eG eE eD
variable {ins:List Int}{w J W':World}{us G vs:List Vl}{lo n g i l h:Nat}{v:Vl}{x zs xs:List Nat}{Vs:List (List Nat)}
theorem GE(av:okV ins vs i=true)(aj:(vs.getD i hM).op≠0)(F:Int->List Nat)(bu:∀o∈eW (vs.getD i hM),((F o).length:Int)=(vs.getD o.toNat hM).len)(K):
  (iW (vs.getD i hM).op (vs.getD i hM).len (vs.getD i hM).c K (if 0<cnt (vs.getD i hM).op then F (vs.getD i hM).a else[]) (if 1<cnt (vs.getD i hM).op then F (vs.getD i hM).b else[]) (if 2<cnt (vs.getD i hM).op then F (vs.getD i hM).c else[])).length=(vs.getD i hM).len.toNat/\1<=(vs.getD i hM).len.toNat:=by
 have b4:=of_decide_eq_true (jZ av);unfold okV at av;generalize vs.getD i hM=v at av b4 bu aj⊢;rw[Bool.and_eq_true,Bool.and_eq_true]at av;obtain⟨⟨B,R⟩,h3⟩:=av;rw[hJ aj,Bool.and_eq_true]at h3;have ad:=h3.2;have ai:=gK v.op;refine⟨?_,by omega⟩;rw[zu];unfold fk;rw[B,Bool.true_and];unfold eW at ad bu;rcases (by omega:cnt v.op=0\/cnt v.op=1\/cnt v.op=2\/cnt v.op=3) with e|e|e|e
 ·rw[e]at ad⊢;exact ad
 ·rw[e]at ad bu⊢;simp only[List.take_succ_cons,List.take_zero,List.map_cons,List.map_nil,List.mem_cons,List.not_mem_nil,or_false,forall_eq]at ad bu⊢;rw[hK xaa,bu];exact ad
 ·rw[e]at ad bu⊢;simp only[List.take_succ_cons,List.take_zero,List.map_cons,List.map_nil]at ad bu⊢;rw[hK xaa,hK xaa,bu v.a xac,bu v.b xac];exact ad
 rw[e]at ad bu⊢;simp only[List.take_succ_cons,List.take_zero,List.map_cons,List.map_nil]at ad bu⊢;rw[hK xaa,hK xaa,hK xaa,bu v.a xac,bu v.b xac,bu v.c xac];exact ad
def ofC (us:List Vl)(v:Vl):Bool:=((eW v).all λo=>(us.getD o.toNat hM).op==1)&&v.op !=0
theorem DL(h:cnt v.op=0):eW v=[]:=by unfold eW;rw[h];rfl
theorem rC(bO:Lk us G):r6 G v=(ofC us v&&decide (0<cnt v.op)):=by
 unfold r6 ofC
 have e:((eW v).all λo=>(G.getD o.toNat hM).op==1)=((eW v).all λo=>(us.getD o.toNat hM).op==1):=by
  congr 1;funext o;have:=congrArg Vl.op (bO.at_ o.toNat);have e:(us.getD o.toNat hM).op=(G.getD o.toNat hM).op:=this;rw[e]
 rw[e];by_cases c:0<cnt v.op
 ·have aj:v.op≠0:=λh=>by rw[h]at c;exact absurd c xab
  simp[c,aj]
 simp[c]
theorem Pm{op}(h:0<=op/\op<=13)(ai:¬0<cnt op)(aj:op≠0):op=1:=by
 unfold cnt at ai;split at ai
 ·omega
 split at ai
 ·omega
 split at ai
 ·omega
 omega
theorem NH(bO:Lk us G)(h:ofC us v=false):jk G v=v/\v.op≠1:=by
 constructor
 ·unfold jk;rw[hJ (λc=>by rw[rC bO,h]at c;exact absurd c.1 xac)]
 intro c;unfold ofC at h;rw[DL (by rw[c];decide),c]at h;simp at h
def zH (us:List Vl)(Vs:List (List Nat))(i:Nat):Prop:=∀j,j<i->(us.getD j hM).op=1->fU (Vs.getD j []) (List.replicate (us.getD j hM).len.toNat (us.getD j hM).k)
theorem zJ(bO:Lk us G)(f:zH us Vs i)(av:∀o∈eW v,0<=o/\o<i)(ai:ofC us v=true):∀o∈eW v,fU (Vs.getD o.toNat []) (rp G o):=by
 intro o h;have hb:=av o h;unfold ofC at ai;rw[Bool.and_eq_true]at ai;have B:=List.all_eq_true.1 ai.1 o h;rw[beq_iff_eq]at B;exact gY (f o.toNat xaa B) (Dv bO o)
theorem rD(v Vs):kop v Vs=iW v.op v.len v.c v.k (if 0<cnt v.op then Vs.getD v.a.toNat [] else[]) (if 1<cnt v.op then Vs.getD v.b.toNat [] else[]) (if 2<cnt v.op then Vs.getD v.c.toNat [] else[]):=rfl
theorem DM(bO:Lk us G)(f:zH us Vs i)(av:∀o∈eW v,0<=o/\o<i)(ai:ofC us v=true)(U:gZ Vs)(p:Kb G):fU (kop v Vs) (nN G v):=by
 have a7:=zJ bO f av ai;have c3:=gK v.op;rw[rD];unfold nN;refine nD ?_ ?_ ?_ (kD (U _)) (kD (sI p _))
 ·by_cases c:0<cnt v.op
  ·rw[hK c,hK c];exact a7 _ (gI xaa)
  rw[hJ c,hJ c];rfl
 ·by_cases c:1<cnt v.op
  ·rw[hK c,hK c];exact a7 _ (jm xaa)
  rw[hJ c,hJ c];rfl
 by_cases c:2<cnt v.op
 ·rw[hK c,hK c];exact a7 _ (lR xaa)
 rw[hJ c,hJ c];rfl
theorem J9(aJ:uni zs=true)(ah:zs.length=n):fU zs (List.replicate n (zs.getD 0 0)):=by
 unfold uni at aJ;rw[Bool.and_eq_true]at aJ;unfold fU;rw[List.map_replicate,List.eq_replicate_iff];refine⟨by simp[ah],λb hb=>?_⟩;obtain⟨x,au,rfl⟩:=List.mem_map.1 hb;exact beq_iff_eq.1 (List.all_eq_true.1 aJ.2 x au)
theorem zK(h:okV ins vs i=true)(B:(vs.getD i hM).op=1):(vs.getD i hM).a=0/\(vs.getD i hM).b=0/\(vs.getD i hM).c=0:=by
 unfold okV at h;generalize vs.getD i hM=v at*;rw[Bool.and_eq_true,Bool.and_eq_true]at h;have ad:=h.1.2;unfold gg at ad;have ae:cnt v.op=0:=by rw[B];decide
 have a9:iX v.op=false:=by rw[B];decide
 rw[ae,a9,B]at ad;refine⟨?_,?_,?_⟩
 ·by_cases c:v.a=0
  ·exact c
  simp[c]at ad
 ·by_cases c:v.b=0
  ·exact c
  simp[c]at ad
 by_cases c:v.c=0
 ·exact c
 simp[c]at ad
theorem tX{len C K}(h:(iW 1 len C K [] [] []).length=n):iW 1 len C K [] [] []=List.replicate n K:=by
 subst h;unfold iW;split
 ·rw[List.eq_replicate_iff];refine⟨rfl,λb hb=>?_⟩;obtain⟨x,_,rfl⟩:=List.mem_map.1 hb;unfold fA;rw[hK rfl]
 rfl
theorem NJ(P:okV ins vs i=true)(bO:Lk us G)(f:zH us Vs i)(ai:ofC us (vs.getD i hM)=true)(U:gZ Vs)(p:Kb G)(b4:∀j,j<i->(us.getD j hM).len=(vs.getD j hM).len)(q:∀j,j<i->0<=(us.getD j hM).len)(bp:fU zs (kop (vs.getD i hM) Vs)):
  zs.length=(vs.getD i hM).len.toNat/\1<=zs.length/\(uni zs=true->cv ⟨1,(vs.getD i hM).len,0,0,0,zs.getD 0 0⟩=cv (jk G (vs.getD i hM))/\fU (kop (vs.getD i hM) Vs) (List.replicate (vs.getD i hM).len.toNat (zs.getD 0 0)))/\(uni zs=false->jk G (vs.getD i hM)=vs.getD i hM/\(vs.getD i hM).op≠1):=by
 have av:=jl P;have ay:=wR P
 have aj:(vs.getD i hM).op≠0:=λc=>by
  unfold ofC at ai
  rw[c]at ai
  simp at ai
 have t:=GE P aj (λo=>Vs.getD o.toNat []) (λo h=>by
  have hb:=av o h
  have ad:=jc (zJ bO f av ai o h)
  rw[ad]
  have e:(G.getD o.toNat hM).len=(us.getD o.toNat hM).len:=(congrArg Vl.len (bO.at_ o.toNat)).symm
  unfold rp
  rw[List.length_replicate,e,<-b4 o.toNat xaa]
  have:=q o.toNat xaa
  omega) (vs.getD i hM).k
 rw[<-rD]at t;have m:zs.length=(vs.getD i hM).len.toNat:=by rw[jc bp];exact t.1
 have O:=DM bO f av ai U p;have r:=zK P;generalize vs.getD i hM=v at*;refine⟨m,by omega,λaJ=>⟨?_,?_⟩,λaJ=>?_⟩
 ·have bb:=gY bp O;by_cases bR:0<cnt v.op
  ·have hb:r6 G v=true:=by rw[rC bO,ai];simpa using bR
   have d0:uni (nN G v)=true:=by rw[<-rt bb];exact aJ
   unfold jk;rw[hK ⟨hb,d0⟩];unfold cv;simp only;rw[gO bb 0]
  have B:=Pm ay bR aj;have hb:r6 G v=false:=by rw[rC bO];simp[bR]
  unfold jk;rw[hJ (λc=>by rw[hb]at c;exact absurd c.1 xac)];obtain⟨ae,a9,ak⟩:=r B
  have e4:fb (zs.getD 0 0)=fb v.k:=by
   rw[gO bp 0,rD,hJ bR,hJ xaa,hJ xaa,B];have aq:=t.1;rw[rD,hJ bR,hJ xaa,hJ xaa,B]at aq;rw[tX aq];have:0<v.len.toNat:=xaa;rw[yah,List.getElem?_replicate,hK this];rfl
  unfold cv;simp only;rw[B,ae,a9,ak,e4]
 ·exact gY (ro bp) (J9 aJ m)
 have bb:=gY bp O;by_cases bR:0<cnt v.op
 ·unfold jk;rw[hJ (λc=>by rw[<-rt bb,aJ]at c;exact absurd c.2 xac)];exact⟨rfl,λc=>by rw[c]at bR;exact absurd bR xab⟩
 exfalso;have B:=Pm ay bR aj;have aq:=t.1;rw[rD,hJ bR,hJ xaa,hJ xaa,B]at aq bp;rw[tX aq]at bp;rw[rt bp]at aJ;unfold uni at aJ;have:0<v.len.toNat:=xaa
 rw[List.length_replicate,List.all_eq_true.2 (λx au=>by
  rw[List.eq_of_mem_replicate au,yah,List.getElem?_replicate,hK this];simp)]at aJ
 simp[this]at aJ
theorem uI(w v g n c us)(h:VA w g n us)(av:∀o∈eW v,0<=o/\o<n):
  Calls prog 107 #[v.agg,hH g n c] w λe J=>e=.returned (.bool (ofC us v))/\Kept 0 0 w J:=by
 have ai:=gK v.op;have H:=ez 0 0 w (eK v.op v.len v.a v.b v.c v.k);have bv:V (At (w.alloc (eK v.op v.len v.a v.b v.c v.k)) w.heap.size 0 v):=jF w v;have bT:V _:=h.keep H yaa;have HK:V _:=H;have HO:V _:=av;have cd:V (w.heap.size<(w.alloc (eK v.op v.len v.a v.b v.c v.k)).heap.size):=by show _<_;simp
 clear h av H;obtain⟨bL,bI,bJ,cb,ci,bx⟩:=bv.o;go_enter func107,ntmps107;go_wp2_with fail;clear bL bI bJ cb ci bx;generalize w.alloc (eK v.op v.len v.a v.b v.c v.k)=aB at bv bT HK cd⊢;refine yai (m9 aB v) ?_;rintro e af ⟨I,rfl,(bX:V _),C,ao⟩;have cJ:V _:=bv.o.keep cd.o ao yaa;have p:V _:=bT.o.keep ao yaa;have bN:V _:=HK.o.trans ao;clear C ao bv bT HK;go_wp2_with fail;go_loop [10] (λx=>∃q:Nat,q<=cnt v.op/\x=hI q/\V (((eW v).take q).all (λo=>(us.getD o.toNat hM).op==1)=true)) (λx=>cnt v.op-(intOf x).toNat)
 case atStart=>exact⟨0,Nat.zero_le _,rfl,rfl⟩
 case round=>
  obtain⟨q,aq,rfl,a7⟩:=hrel;by_cases B:q<cnt v.op
  ·have f:q<(eW v).length:=by rw[jP];exact B
   have u:=HO.o _ (kY f);obtain⟨m,em,az⟩:∃m:Nat,(eW v).getD q 0=m/\m<n:=⟨((eW v).getD q 0).toNat,by omega,by omega⟩
   obtain⟨aG,bF,bH,b1,r,_,_,ak⟩:=bX.o.at_idx (o:=q) xaa xaa;cases b1;rw[Int.toNat_natCast,em,Nat.zero_add]at ak;obtain rfl:q=bH:=xaa;have c2':=(p.o.at_ m az).c0;cases t:((us.getD m hM).op !=1)
   ·have aa:V (((eW v).take (q+1)).all (λo=>(us.getD o.toNat hM).op==1)=true):=by
     show _=_;rw[yat f,List.all_append,a7.o];have a9:(eW v)[q]=(m:Int):=by rw[<-em,yah,yal f];rfl
     rw[a9];simpa using t
    generalize (us.getD m hM).op=y at c2' t;clear u em f a7;go_wp2;go_round
    case rel=>exact⟨q+1,by omega,by go_num,aa⟩
    case measure=>simp[intOf];omega
   have aa:V (ofC us v=false):=by
    show _=_;unfold ofC;rw[List.all_eq_false.2 ⟨_,kY f,by rw[em,Int.toNat_natCast];simpa using t⟩];rfl
   generalize (us.getD m hM).op=y at c2' t;clear u em f a7;go_wp2;go_ret;exact⟨hX aa.o,bN.o⟩
  obtain rfl:q=cnt v.op:=xaa
  have aa:V (ofC us v=(v.op !=0)):=by
   show _=_;have:=a7.o;rw[yao (by rw[jP];omega)]at this;unfold ofC;rw[this,Bool.true_and]
  obtain⟨bL,bI,bJ,cb,ci,bx⟩:=cJ.o;clear a7;go_wp2;go_ret;exact⟨hX aa.o,bN.o⟩
theorem Ka(w lo hi a n c zs)(f:FS w lo hi a n zs)(hn:1<=n)(b8:n<=1000):
  Calls prog 108 #[.slice a n c] w λe J=>e=.returned (.bool (uni zs))/\w=J:=by
 rcases f.at_ with z|⟨g,off,rfl,_,_,_,ai⟩
 ·omega
 have aP:V _:=ai;have HL:V (zs.length=n):=f.len;have c0:=ai 0 xaa;rw[Nat.add_zero]at c0;have aw:V (∀x w,Calls prog 134 #[.float .f64 x,.float .f64 (zs.getD 0 0)] w λe J=>e=.returned (.bool (fb x==fb (zs.getD 0 0)))/\J=w):=λx w=>(yq x _ w).mono λ_ _ h=>⟨by rw[h.1,BL],h.2⟩
 clear ai f;go_enter func108,ntmps108;go_wp2_with fail;go_loop [7] (λx=>∃k:Nat,k<=n/\x=hI k/\V ((zs.take k).all (λx=>fb x==fb (zs.getD 0 0))=true)) (λx=>n-(intOf x).toNat)
 case atStart=>exact⟨0,Nat.zero_le _,rfl,rfl⟩
 case round=>
  obtain⟨k,O,rfl,a7⟩:=hrel;by_cases aF:k<n
  ·have m:k<zs.length:=by rw[HL.o];exact aF
   have c1:=aP.o k aF;have bX:V _:=aw.o (zs.getD k 0);cases t:(fb (zs.getD k 0)==fb (zs.getD 0 0))
   ·have aa:V (uni zs=false):=by
     show _=_;unfold uni;rw[List.all_eq_false.2 ⟨zs.getD k 0,by rw[yah,yal m];exact List.getElem_mem _,by rw[t];simp⟩,Bool.and_false]
    rw[t]at bX;generalize zs.getD k 0=x at c1 bX;generalize zs.getD 0 0=bL at c0 bX;clear t a7 aw;go_wp2_with ((go_at_call 134;refine yai (bX.o _) ?_;rintro e af ⟨rfl,rfl⟩));go_ret;exact⟨hX aa.o,rfl⟩
   have aa:V ((zs.take (k+1)).all (λx=>fb x==fb (zs.getD 0 0))=true):=by
    show _=_;rw[yat m,List.all_append,a7.o];rw[yah,yal m]at t;simpa using t
   rw[t]at bX;generalize zs.getD k 0=x at c1 bX;clear t a7 aw;generalize zs.getD 0 0=bL at c0 bX aa;go_wp2_with ((go_at_call 134;refine yai (bX.o _) ?_;rintro e af ⟨rfl,rfl⟩));exact xdk
  obtain rfl:k=n:=xaa
  have aa:V (uni zs=true):=by
   show _=_;have:=a7.o;rw[yao (hW HL.o)]at this;unfold uni;rw[this,HL.o];simp;omega
  clear a7;go_wp2;go_ret;exact⟨hX aa.o,rfl⟩
theorem Cn.keepR{v}(f:Cn w lo v xs)(k:Kept l h w J)(ah:h<=lo\/h<=l):Cn J lo v xs:=by
 obtain⟨b,n,c,zs,B,R,h3,a8⟩:=f;exact⟨b,n,c,zs,B,R,(h3.keep k xaa).mono yad k.size,a8⟩
theorem Cn.setS{y}(f:Cn w lo y xs){k u}(ai:w.cell? ⟨g,k,none⟩=some u)(aJ:∀x,u≠.float .f64 x)(v):Cn (w.setCell ⟨g,k,none⟩ v) lo y xs:=by
 exact xim
theorem Cn.low{lo' y}(f:Cn w lo y xs)(h:lo'<=lo):Cn w lo' y xs:=by
 obtain⟨b,n,c,zs,B,R,h3,a8⟩:=f;exact⟨b,n,c,zs,B,R,h3.mono h yad,a8⟩
structure LW (w:World)(lo g n:Nat)(Vs:List (List Nat)):Prop where
 lt:g<w.heap.size
 len:Vs.length=n
 free:∀o,w.frozen? ⟨g,o,none⟩=false
 at_:∀j,j<n->∃b m c,w.cell? ⟨g,j,none⟩=some (.slice b m c)/\Cn w lo (.slice b m c) (Vs.getD j [])
theorem LW.lv(f:LW w lo g n Vs):LV w g n n Vs:=
 ⟨f.lt,f.free,λj hj=>by
  obtain⟨b,m,c,B,R⟩:=f.at_ j hj
  exact⟨b,m,c,B,λ_=>R.cl⟩⟩
theorem LW.keepR(f:LW w lo g n Vs)(k:Kept l h w J)(ah:h<=lo\/h<=l)(aW:g<l\/h<=g\/h<=l):LW J lo g n Vs:=
 ⟨yaj f.lt k.size,f.len,λo=>by rw[k.frozen (p:=⟨g,o,none⟩) f.lt (by simp only;omega)];exact f.free o,λj hj=>by
  obtain⟨b,m,c,B,R⟩:=f.at_ j hj
  exact⟨b,m,c,by rw[k.cell (p:=⟨g,j,none⟩) f.lt (by simp only;omega)];exact B,R.keepR k ah⟩⟩
theorem LW.made(w:World)(n lo):LW (w.alloc (.cells (madeCells #[.slice none 0 0] n) 47)) lo w.heap.size n (List.replicate n []) where
 lt:=by simp
 len:=by simp
 free:=λo=>by simp
 at_:=λj hj=>by
  rw[yau]
  refine⟨none,0,0,?_,?_⟩
  ·simp only[madeCells]
   rw[Array.getElem?_map,Array.getElem?_range,hK hj]
   have az:j%1=0:=Nat.mod_one j
   simp[az]
  ·rw[yah,List.getElem?_replicate,hK hj]
   exact⟨none,0,0,[],rfl,yad,⟨rfl,by simp,.inl rfl⟩,rfl⟩
theorem LW.put{w lo g n j Vs}(f:LW w lo g n Vs)(hj:j<n){b m c x}(aJ:Cn w lo (.slice b m c) x):LW (w.setCell ⟨g,j,none⟩ (.slice b m c)) lo g n (Vs.set j x):=by
 obtain⟨bb,S,c0,ai,_⟩:=f.at_ j hj;refine⟨by simpa using f.lt,by rw[List.length_set];exact f.len,λo=>by simp[f.free o],λi hi=>?_⟩;by_cases e:i=j
 ·subst e;refine⟨b,m,c,fJ _ _ _ _ _ ai,?_⟩;rw[yah,List.getElem?_set,hK rfl,hK (hU f.len hi)];exact aJ.setS ai (iG _ _ _) _
 obtain⟨N,m1,c1,B,R⟩:=f.at_ i hi;refine⟨N,m1,c1,by rw[eO _ _ _ _ _ _ (.inr (Ne.symm e))];exact B,?_⟩;rw[yah,List.getElem?_set,hJ (Ne.symm e),<-yah];exact R.setS ai (iG _ _ _) _
structure FI (W w1:World)(g2 L n2 i:Nat)(vs us:List Vl)(Vs:List (List Nat)):Prop where
 va:VA W g2 n2 (us++vs.drop i)
 len:us.length=i
 lk:Lk us (fV vs i)
 kb:Kb us
 lw:LW W w1.heap.size L n2 Vs
 wd:gZ Vs
 hd:zH us Vs i
 ch:Chg (λb=>b=g2\/b=L) w1 W
theorem DN(h:gZ Vs)(i)(au:∀q∈x,q<18446744073709551616):gZ (Vs.set i x):=by
 intro k q aq;rw[yah,List.getElem?_set]at aq;split at aq
 ·split at aq
  ·exact au q aq
  simp at aq
 rw[<-yah]at aq;exact h k q aq
theorem DO(h:zH us Vs i)(ah:us.length=i)(aL:v.op≠1):zH (us++[v]) Vs (i+1):=by
 intro j hj av;by_cases c:j<i
 ·rw[im _ _ xaa]at av⊢;exact h j c av
 have:j=us.length:=xaa;subst this;rw[gX]at av;exact absurd av aL
theorem GF(h:zH us Vs i)(ah:us.length=i)(hi:i<Vs.length)(au:fU x (List.replicate v.len.toNat v.k)):zH (us++[v]) (Vs.set i x) (i+1):=by
 intro j hj av;rw[yah (l:=Vs.set i x),List.getElem?_set];by_cases c:j<i
 ·rw[im _ _ xaa]at av⊢;rw[hJ xaa,<-yah];exact h j c av
 have:j=us.length:=xaa;subst this;rw[gX]at av⊢;rw[hK ah.symm,hK hi];exact au
theorem GG(hi:i<vs.length):us++vs.drop i=(us++[vs.getD i hM])++vs.drop (i+1):=by
 rw[uU hi];simp
theorem FI.stay{W aB ag L U}(f:FI W aB ag L U i vs us Vs)(k:Kept 0 0 W W')(hi:i<vs.length)(p:Kb vs)(B:jk (fV vs i) (vs.getD i hM)=vs.getD i hM)(R:(vs.getD i hM).op≠1):FI W' aB ag L U (i+1) vs (us++[vs.getD i hM]) Vs where
 va:=by rw[<-GG hi];exact f.va.keep k yaa
 len:=by rw[yak,f.len];rfl
 lk:=by rw[fV,B];exact f.lk.app rfl
 kb:=f.kb.app (p.at_ i)
 lw:=f.lw.keepR k yab yaa
 wd:=f.wd
 hd:=DO f.hd f.len R
 ch:=Chg.trans f.ch k.chg
theorem Kc{aa}(h:∀o∈eW v,0<=o/\o<us.length):ofC (us++aa) v=ofC us v:=by
 unfold ofC;congr 1;rw[Bool.eq_iff_iff,List.all_eq_true,List.all_eq_true]
 have aw:∀o∈eW v,(us++aa).getD o.toNat hM=us.getD o.toNat hM:=λo av=>by
  exact xil
 constructor
 ·intro q o av;rw[<-aw o av];exact q o av
 intro q o av;rw[aw o av];exact q o av
theorem FI.put{W W' aG aB ag L U i vs us Vs nv b m c x}(f:FI W aB ag L U i vs us Vs)(k:Kept 0 0 W W')(y:Kept 0 0 (q8 W' ag (i*6) nv) aG)(hi:i<U)(cl:vs.length=U)(aW:ag<aB.heap.size)(p:ag≠L)(cO:Cn W' aB.heap.size (.slice b m c) x)
  (B:cv nv=cv (jk (fV vs i) (vs.getD i hM))) (O:nv.k<18446744073709551616) (au:∀q∈x,q<18446744073709551616) (ad:fU x (List.replicate nv.len.toNat nv.k)):
  LW aG aB.heap.size L U Vs/\FI (aG.setCell ⟨L,i,none⟩ (.slice b m c)) aB ag L U (i+1) vs (us++[nv]) (Vs.set i x):=by
 have K:=mM W' ag (i*6) nv;have e:LW aG aB.heap.size L U Vs:=((f.lw.keepR k yab yaa).keepR K (.inl xaa) xaa).keepR y yab yaa;have o:=(cO.keepR K (.inl xaa)).keepR y yab;have j:=((f.va.keep k yaa).step i hi nv).keep y yaa;rw[sK f.len xaa]at j;have s:=eX (lo:=L) (hi:=L+1) aG ⟨L,i,none⟩ (.slice b m c) yac;refine⟨e,⟨j.keep s xaa,by rw[yak,f.len];rfl,by rw[fV];exact f.lk.app B,f.kb.app O,e.put hi o,DN f.wd i au,GF f.hd f.len (hU f.lw.len hi) ad,?_⟩⟩;exact Chg.trans f.ch (Chg.trans k.chg (Chg.trans (K.chg1 (.inl rfl)) (Chg.trans y.chg (s.chg1 (.inr rfl)))))
theorem lT{P a m}(f b c):(store a (.func f b c) m).run P w=stored P w a (.func f b c) m:=run_store P w a _ m rfl
attribute [local go_sem] lT
theorem Kd(w g off m cap n)(xs:List Int)(au:xs.length=m)(az:m<=1000)(ai:∀k,k<m->w.cell? ⟨g,off+k,none⟩=some (hI (xs.getD k 0))):
  Calls prog 41 #[hI n,.slice (some ⟨g,off,none⟩) m cap] w λe J=>e=.returned (.bool (xs.all (fI · n)))/\w=J:=by
 have bl:V _:=ai;have bv:V (xs.length=m):=au;clear ai au;go_enter func41,ntmps41;go_wp2_with fail;go_loop [9] (λi=>∃k:Nat,k<=m/\i=hI k/\V ((xs.take k).all (fI · n)=true)) (λi=>m-(intOf i).toNat)
 case atStart=>exact⟨0,Nat.zero_le _,rfl,rfl⟩
 case round=>
  obtain⟨k,O,rfl,a7⟩:=hrel;by_cases aF:k<m
  ·have c:=bl.o k aF;cases t:fI (xs.getD k 0) n
   ·have aa:V (xs.all (fI · n)=false):=by
     show _=_;rw[List.all_eq_false];exact⟨xs.getD k 0,kY (hU bv.o aF),by show ¬fI _ _=true;rw[t];decide⟩
    have bX:V _:=iz (xs.getD k 0) n w;rw[t]at bX;generalize xs.getD k 0=x at c bX;clear t;go_wp2_with fail;refine yai bX.o ?_;rintro e af ⟨rfl,S⟩;have R3:V (w=af):=S.symm;clear S;go_wp2;go_ret;exact⟨hX aa.o,R3.o⟩
   have aa:V ((xs.take (k+1)).all (fI · n)=true):=by
    show _=_;rw[yat (hU bv.o aF),List.all_append,a7.o];rw[yah,yal (hU bv.o aF)]at t;simpa using t
   have bX:V _:=iz (xs.getD k 0) n w;rw[t]at bX;generalize xs.getD k 0=x at c bX;clear t;go_wp2_with fail;refine yai bX.o ?_;rintro e af ⟨rfl,rfl⟩;exact xeu
  obtain rfl:k=m:=xaa
  have aa:V (xs.all (fI · n)=true):=by
   exact xjv
  clear a7;go_wp2;go_ret;exact⟨hX aa.o,rfl⟩
theorem Ke(w a cap n):Calls prog 41 #[hI n,.slice a 0 cap] w λe J=>e=.returned (.bool true)/\w=J:=by
 go_enter func41,ntmps41;exact xjb
theorem Kf(w lo hi a m cap n xs)(f:IS w lo hi a m xs)(az:m<=1000):Calls prog 41 #[hI n,.slice a m cap] w λe J=>e=.returned (.bool (xs.all (fI · n)))/\w=J:=by
 rcases f.at_ with z|⟨g,off,rfl,_,_,_,ai⟩
 ·subst z;have:xs=[]:=List.length_eq_zero_iff.1 f.len;subst this;exact Ke w a cap n
 exact Kd w g off m cap n xs f.len az ai
structure AP (W:World)(A:Nat):Prop where
 lt:A<W.heap.size
 p0:W.cell? ⟨A,0,none⟩=some (.func (.func 64) #[] #[])
 p1:W.cell? ⟨A,1,none⟩=some (.func (.func 65) #[] #[])
 p2:W.cell? ⟨A,2,none⟩=some (.func (.func 66) #[] #[])
 p3:W.cell? ⟨A,3,none⟩=some (.func (.func 67) #[] #[])
 p4:W.cell? ⟨A,4,none⟩=some (.func (.func 68) #[] #[])
theorem AP.keepC{W S A}(t:AP W A)(k:Chg S W W')(aV:¬S A):AP W' A:=by
 have e:∀o,W'.cell? ⟨A,o,none⟩=W.cell? ⟨A,o,none⟩:=λo=>k.cell (p:=⟨A,o,none⟩) t.lt aV;exact⟨yaj t.lt k.size,hU e t.p0,hU e t.p1,hU e t.p2,hU e t.p3,hU e t.p4⟩
abbrev LQ:Value:=.agg #[.func (.func 64) #[] #[],.func (.func 65) #[] #[],.func (.func 66) #[] #[],.func (.func 67) #[] #[],.func (.func 68) #[] #[]]
abbrev Ca:Obj:=.cells #[.func (.func 64) #[] #[],.func (.func 65) #[] #[],.func (.func 66) #[] #[],.func (.func 67) #[] #[],.func (.func 68) #[] #[]] 71
theorem GH(w:World):AP (w.alloc Ca) w.heap.size:=by
 exact xhf
theorem DP(w):Calls prog 42 #[] w λe J=>e=.returned LQ/\Kept 0 0 w J:=by
 go_enter func42,ntmps42;go_wp2;refine yay (v:=LQ) (by simp[results,results42,go_sem]) rfl ⟨rfl,?_⟩;exact ez _ _ _ _
abbrev LR (w:World)(g:Nat)(x y z:Value):World:=((w.setCell ⟨g,0,none⟩ x).setCell ⟨g,1,none⟩ y).setCell ⟨g,2,none⟩ z
