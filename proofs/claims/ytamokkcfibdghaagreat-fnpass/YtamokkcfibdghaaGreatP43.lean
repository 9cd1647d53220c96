import Derived.Test.YtamokkcfibdghaaGreatP40
import Derived.Test.YtamokkcfibdghaaGreatP20
namespace Go.Proofs.Z
variable {Zp:Prop}
open Tryz Go.RowKit Flt
set_option maxRecDepth 1000000
set_option maxHeartbeats 0
section
attribute [local go_sem] eG eE eD
variable {w J:World}{q j A n I k:Nat}{bd:List Nat}{vs:List Vl}{a:Option Addr}{xss:List (List Nat)}{ins xs:List Int}{v bL bI bJ:Value}
def lM (xs:List Int)(i:Nat):Nat:=if xs.length=0 then 0 else (xs.getD (i%xs.length) 0).toNat
theorem Ii(h:YS w a n xs)(i):lM xs i<256:=by
 unfold lM;split
 ·omega
 rename_i aj;have az:i%xs.length<xs.length:=Nat.mod_lt _ xaa;rw[yah,yal az];have:=h.lt _ (List.getElem_mem az);show(xs[i%xs.length]).toNat<256;omega
theorem PD{cap}(h:YS w a n xs)(hn:n<=1048576)(i:Nat):
  Calls prog 21 #[.slice a n cap,hI i] w λe J=>e=.returned (hI (lM xs i:Int))/\J=w:=by
 have ah:=h.len;by_cases aj:n=0
 ·have HR:V ((lM xs i:Int)=0):=by show _=_;unfold lM;rw[hK xaa];rfl
  have P:(n:Int)<=0:=xaa;clear h ah aj;exact xjw
 have az:i%n<n:=Nat.mod_lt _ xaa
 obtain⟨g,off,rfl,ai⟩:∃g off,a=some ⟨g,off,none⟩/\w.cell? ⟨g,off+i%n,none⟩=some (.int .u8 (xs.getD (i%n) 0)):=by
  rcases h.at_ with q|⟨g,off,e,h3,a8⟩
  ·exact absurd q aj
  exact⟨g,off,e,a8 _ az⟩
 have hb:0<=xs.getD (i%n) 0/\xs.getD (i%n) 0<256:=by
  rw[yah,yal xaa];exact h.lt _ (List.getElem_mem _)
 have HR:V ((lM xs i:Int)=xs.getD (i%n) 0):=by show _=_;unfold lM;rw[hJ xaa,ah];omega
 have f:(i:Int).tmod (n:Int)=((i%n:Nat):Int):=rfl;have l:(i:Int)%n=((i%n:Nat):Int):=by rw[Int.natCast_emod]
 obtain⟨aq,U⟩:=hb;generalize xs.getD (i%n) 0=x at ai aq U HR;generalize i%n=j at az ai f l;clear h ah;exact xjw
theorem qQ(outs:List Int)(y:List (List Nat))(h:j<outs.length):(outs.map λo=>y.getD o.toNat []).getD j []=y.getD (outs.getD j 0).toNat []:=by
 have e:outs.getD j 0=outs[j]:=by rw[yah,yal h];rfl
 rw[e,yah,List.getElem?_map,yal h];rfl
theorem cB.qck(h:Zp:=by
 clear aH h f s av aL S;go_enter func10,ntmps10;go_wp2_with fail;generalize w.alloc (eY a1 Y c1 a2 U c2 a3 Z c3)=aB at bv aI aP aw HK cd⊢;refine yai bv.o ?_;rintro e af ⟨rfl,ao⟩;obtain⟨_,ba,aO,aR⟩:=G0.keep aI.o ao;have bQ:V _:=Dt af _ _ a1 b Y m c1 b5 ins xss (GS.keep aP.o ao).i (SS.keep aw.o ao) xaa;exact qhb):Zp:=h
theorem cB.qey(h:Zp:=by
 have bx:V _:=kr (vs:=vs) S (λk=>by
  rw[yah]
  cases b3:vs[k]? with
  |none=>decide
  |some v=>exact f.v.lt v (List.mem_of_getElem? b3))
 have t:V _:=mV (vs:=vs) R U aL
 have ad:V (m=Y):=by
  exact xiu
 have aH:=ez 0 0 w (eY a1 Y c1 a2 U c2 a3 Z c3);have bv:V _:=uS _ a1 a2 a3 Y c1 U c2 Z c3 ins vs outs (f.keep aH);rw[h]at bv;exact qcj):Zp:=h
theorem cB.qfm(h:Zp:=by
 have bv:V _:=Ba _ (vs.getD k hM) aX.heap.size U U m b5 k b xss (eU xss vs k) (hP.o.keep F) (SS.keep aw.o (Kept.trans aH.o F)) O (by
   rw[yah]
   cases b3:vs[k]? with
   |none=>decide
   |some v=>exact a6 v (List.mem_of_getElem? b3)) (bx.o k) (λaj=>by
   unfold okV at ok
   rw[hK aj]at ok
   simp only[Bool.and_eq_true]at ok
   have:=of_decide_eq_true ok.2.1
   rw[ae]at this
   rw[ad.o]
   exact this) (λaj=>by
   unfold okV at ok
   rw[hJ aj]at ok
   simp only[Bool.and_eq_true]at ok
   exact ok.2.1)
 have a7:V (∀{J:World}{b:Option Addr}{m c:Nat},Kept 0 0 wr J->Cl J (.slice b m c) (one xss (vs.getD k hM) (eU xss vs k))->_):=λq aJ=>hP.o.step aF q aJ;have cg:V _:=F;clear aZ be bz bE ok a6 bu F;generalize vs.getD k hM=v at bg bv a7 cg;obtain⟨bD,d1,d2,d3,d4,d5⟩:=bg;subst b1;go_wp2_with fail;refine yai bv.o ?_;rintro e bA ⟨b9,bn,c5,rfl,cD,bc⟩;have b6:=Kept.trans cg.o bc;have r:=hP.o.keep b6;obtain⟨cn,am,ar,aU,_⟩:=r.at_ k aF;have aY:=r.free k;have R1:V _:=a7.o b6 cD;have R2:V _:=nV aB bA (Kept.trans aH.o b6) aX.heap.size k (.slice b9 bn c5) ay.o;clear r b6 bc cD bv a7 cg bD d1 d2 d3 d4 d5 hP aH;exact xer):Zp:=h
theorem cB.qhc(h:Zp:=by
 have az:=A7 U aX xaa;have aW:V _:=LV.made aX U (eU xss vs 0);have bZ:=aM.trans (ez 0 0 aX (.cells (madeCells #[.slice none 0 0] U) 47));have p:=(G0.keep aI.o aM).q1;obtain⟨_,ba,aO,aR⟩:=G0.keep aI.o bZ;have aV:V _:=bZ;have ay:V (aB.heap.size<=aX.heap.size):=aM.size;clear d3 aM bZ bQ bN;generalize aX.alloc (.cells (madeCells #[.slice none 0 0] U) 47)=bm at az aW aV ba aO aR;go_wp2_with fail;clear az p ba aO aR;go_loopw [27] (λi W=>∃k:Nat,k<=U/\i=hI k/\V (LV W aX.heap.size U k (eU xss vs k))/\V (Kept 0 0 aB W)) (λi _=>U-(intOf i).toNat)
 case atStart=>exact⟨0,Nat.zero_le _,rfl,aW,aV⟩
 case round=>
  obtain⟨k,O,rfl,hP,aH⟩:=hrel;clear aW aV;by_cases aF:k<U
  ·have bu:=GS.keep aP.o aH.o;rcases bu.v.at_ with bM|⟨aG,bF,b1,aZ,be,bz,bE⟩
   ·omega
   have bg:=bE k aF;have a6:=bu.v.lt;have ok:okV ins vs k=true:=List.all_eq_true.1 bT.o k (List.mem_range.2 aF);exact qfl
  obtain rfl:k=U:=xaa;obtain⟨bA,X⟩:∃bA,bA=wr:=⟨_,rfl⟩
  subst X;obtain⟨y,(ce:V _),(C:V _)⟩:=hP.o.ss;have aR:=(G0.keep aI.o aH.o).q2;have az:=A7 Z bA xaa;have ap:=ez 0 0 bA (.cells (madeCells #[.slice none 0 0] Z) 47);have K:=(G0.keep aI.o (Kept.trans aH.o ap)).q2;have aq:V _:=SP.made bA Z id id (outs.map λo=>y.getD o.toNat []);have cp:V _:=ap;have HK:V _:=Kept.trans HK.o aH.o;have al:V (aB.heap.size<=bA.heap.size):=aH.o.size;have cq:V _:=aH.o;clear hP ap aH;generalize bA.alloc (.cells (madeCells #[.slice none 0 0] Z) 47)=ck at az aq cp K;go_wp2_with fail;clear az aR K;go_loopw [47] (λi W=>∃k:Nat,k<=Z/\i=hI k/\V (∃aS ch,SP W bA.heap.size Z k aS ch (outs.map λo=>y.getD o.toNat []))/\V (Kept 0 0 bA W)) (λi _=>Z-(intOf i).toNat)
  case atStart=>exact⟨0,Nat.zero_le _,rfl,⟨id,id,aq.o⟩,cp⟩
  case round=>
   obtain⟨j,hj,rfl,hP,aH⟩:=hrel;clear aq cp;obtain⟨aS,ch,hP⟩:=hP.o;by_cases aF:j<Z
   ·rcases (GS.keep aP.o (Kept.trans cq.o aH.o)).o.at_ with bM|⟨aG,bF,b1,aZ,be,bz,bE⟩
    ·omega
    have c1:=bE j aF
    have g:fI (outs.getD j 0) k=true:=List.all_eq_true.1 HO.o (outs.getD j 0) (by
     rw[yah,yal xaa]
     exact List.getElem_mem _)
    have B:=of_decide_eq_true g
    have bV:(outs.map λo=>y.getD o.toNat []).getD j []=y.getD (outs.getD j 0).toNat []:=by
     exact qQ _ _ xaa
    have aT:V (∀{J:World}{G c:Nat},Kept 0 0 wr J->FO J G _ _->wr.heap.size<=G->_<=c->_):=λq av bq ai=>hP.step aF q av bq ai;rw[bV]at aT;obtain⟨o,av⟩:∃o:Nat,outs.getD j 0=o:=⟨(outs.getD j 0).toNat,by omega⟩
    rw[av,Int.toNat_natCast]at aT;rw[av]at c1 B;have Q:o<k:=xaa;rcases (SS.keep ce.o aH.o).at_ with bM|⟨bH,ab,cf,aU,aY⟩
    ·omega
    cases cf;obtain⟨N,aa,br,ag,aD⟩:=aY o Q;rw[Nat.zero_add]at br
    have b4:1<=(y.getD o []).length/\(y.getD o []).length<=1000:=by
     have ax:=jc (C.o o Q);exact xjl
    rcases aD.at_ with bM|⟨ah,a5,aQ,bI,bJ,cb,ci⟩
    ·omega
    have bl:V _:=Pe wr ah a5 (y.getD o []).length aa (y.getD o []) b4.1 xaa cb rfl aD.lt ci;have fi:V (∀J,Kept 0 0 wr J->J.frozen? ⟨bA.heap.size,j,none⟩=false/\∃u,J.cell? ⟨bA.heap.size,j,none⟩=some u):=λJ q=>⟨(hP.keep q).free j,(hP.keep q).rest j aF⟩
    subst b1 aQ;clear aZ be bz bE aU aY ag aD bI bJ cb ci bV g B hP av;generalize y.getD o []=bd at br bl aT b4;generalize bd.length=l at br bl aT b4;go_wp2_with fail;refine yai bl.o ?_;rintro e cc ⟨G,cap,rfl,aA,z,cj,b0⟩;have R1:V _:=aT.o b0 z cj aA;have R2:V _:=nV bA cc (Kept.trans aH.o b0) bA.heap.size j (hH G l cap) yad;obtain⟨co,u,aJ⟩:=fi.o cc b0;clear bl aT fi br z b0 c1 aH;go_wp2;go_roundw
    case rel=>exact⟨j+1,by omega,by go_num,⟨_,_,R1.o⟩,R2⟩
    case measure=>simp[intOf];omega
   obtain rfl:j=Z:=xaa;have R1:V (Kept 0 0 w wr):=Kept.trans HK.o aH.o
   have R2:V (∀i,i<j->fU ((outs.map λo=>y.getD o.toNat []).getD i []) ((eU xss vs k).getD (outs.getD i 0).toNat [])):=λi hi=>by
    have g:fI (outs.getD i 0) k=true:=List.all_eq_true.1 HO.o (outs.getD i 0) (by
     rw[yah,yal xaa]
     exact List.getElem_mem _)
    have B:=of_decide_eq_true g
    have bV:(outs.map λo=>y.getD o.toNat []).getD i []=y.getD (outs.getD i 0).toNat []:=by
     exact qQ _ _ xaa
    rw[bV]
    exact C.o _ xaa
   have R3:V _:=hP;clear hP aH;go_wp2;go_ret2
   exact⟨bA.heap.size,aS,ch,_,rfl,hS al.o cd.o,R3.o,by rw[List.length_map];exact ak,R2.o,R1.o⟩):Zp:=h
open cB in
theorem Ah(w a1 a2 a3 b Y c1 U c2 Z c3 m b5 ins vs outs xss)(f:GS w a1 Y a2 U a3 Z ins vs outs)(s:SS w b m xss)(S:gZ xss)(h:okG ins vs outs=true)(R:inB ins xss=true):
  Calls prog 10 #[eZ a1 Y c1 a2 U c2 a3 Z c3,.slice b m b5] w λe J=>∃G aS ch y,e=.returned (.tuple #[hH G Z Z,hI 0])/\w.heap.size<=G/\SP J G Z Z aS ch y/\y.length=Z/\(∀j,j<Z->fU (y.getD j []) ((eU xss vs U).getD (outs.getD j 0).toNat []))/\Kept 0 0 w J:=by
 exact qex
theorem bY.qcg(h:Zp:=by
 clear au a7;go_wp2_with fail;go_quiet (fail)
 go_wp2;go_roundw
 case rel=>exact⟨k+1,by omega,by go_num,aa,Drawn.more bf.o _⟩
 case measure=>simp[intOf];omega):Zp:=h
open bY in
theorem N8(w lo hi a b n m ca b5 ins xss)(f:IS w lo hi a n ins)(g:SS w b m xss)(hn:n<=1099511627776):
  Calls prog 18 #[.slice a n ca,.slice b m b5] w λe J=>e=.returned (.bool (inB ins xss))/\Drawn w J:=by
 have aP:V _:=f;have a5:V _:=g;have HL:V (ins.length=n/\xss.length=m):=⟨f.len,g.len⟩
 clear f g;by_cases ag:m=n
 ·subst ag;go_enter func18,ntmps18;go_wp2_with fail;go_loopw [5] (λi W=>∃k:Nat,k<=m/\i=hI k/\V ((List.range k).all (λi=>((xss.getD i []).length:Int)==ins.getD i 0)=true)/\V (Drawn w W)) (λi _=>m-(intOf i).toNat)
  case atStart=>exact⟨0,Nat.zero_le _,rfl,rfl,Drawn.refl _⟩
  case round=>
   obtain⟨k,O,rfl,a7,bf⟩:=hrel;by_cases aF:k<m
   ·rcases aP.o.at_ with bM|⟨aG,bF,b1,aZ,be,bz,bE⟩
    ·omega
    rcases a5.o.at_ with bM|⟨bH,ab,cf,aU,aY⟩
    ·omega
    have c1:=(bf.o.cell _).trans (bE k aF);obtain⟨aA,F,c2',_,_⟩:=aY k aF;have c2:=(bf.o.cell _).trans c2';have b4:0<=(k:Int):=xaa;have bi:(k:Int)<m:=xaa;subst b1 cf;clear aZ be bz bE aU aY c2';cases au:(((xss.getD k []).length:Int)==ins.getD k 0)
    ·have aa:V (inB ins xss=false):=by
      exact xhx
     have am:(((xss.getD k []).length:Int) !=ins.getD k 0)=true:=by rw[bne,au];rfl
     generalize (xss.getD k []).length=y at c2 am;generalize ins.getD k 0=x at c1 am;clear au a7;go_wp2_with fail;go_quiet (fail)
     go_wp2;go_ret;exact⟨hX aa.o,Drawn.more bf.o _⟩
    exact qcf
   have aa:V (inB ins xss=true):=by
    exact xib
   clear a7;go_wp2;go_ret;exact⟨hX aa.o,bf.o⟩
 have e:inB ins xss=false:=by
  exact xkv
 rw[e];have t:((n:Int) !=(m:Int))=true:=by simp;omega
 go_enter func18,ntmps18;go_wp2;go_ret;exact⟨rfl,Drawn.refl _⟩
theorem Ij(w g off n c xs)(hn:1<=n)(b8:n<=1000000)(au:xs.length=n)(aF:∀x∈xs,x<18446744073709551616)(ai:∀k,k<n->w.cell? ⟨g,off+k,none⟩=some (.float .f64 (xs.getD k 0))):
  Calls prog 20 #[.slice (some ⟨g,off,none⟩) n c] w λe J=>∃G cap,e=.returned (hH G n cap)/\n<=cap/\FO J G n xs/\w.heap.size<=G/\Kept 0 0 w J:=by
 obtain⟨bK,hi,bU,bO,bR⟩:=info_parts lG;have bD:V _:=BZ (w:=w) (g:=g) (off:=off) au ai;have HO:V _:=yav w w.heap.size 49 1;have bv:V (xs.length=n):=au;have f:V _:=aF;clear ai au aF;go_enter func20,ntmps20;go_wp2_with (first|(at_builtin;refine wpList_append_own _ rfl _ _ 47 rfl w.heap.size 49 bK (.float .f64 0) 1 8 underlying47 hi bU bO bR rfl xab _ _ _ rfl HO.o ⟨g,off,none⟩ n c (xs.map (Value.float .f64)) rfl ?c0 bD.o ?c2 ?c3 ?c4 ?c5 ?_))
 case c0=>exact bv.o
 case c2=>intro u aJ;rfl
 case c3=>unfold maxLen;omega
 case c4=>omega
 intro v' bo bB bw _;have aT:bo.ownsRow w.heap.size 49 1 v' n (xs.map (Value.float .f64)):=by simpa using bB
 obtain⟨G,cap,rfl,N,aA,ab⟩:=FO.of_own aT xaa bv.o f.o;have aa:V _:=jq (base:=w.heap.size) bw (λk O=>by simp[Value.ownBlock]at O) (Kept.refl 0 0 w) yad;clear bB bw aT;go_wp2;go_ret;exact⟨G,cap,by simp,aA,ab,N,aa.o⟩
theorem N9(v)(aq:q<3):fld v q=[v.a,v.b,v.c].getD q 0:=by
 rcases (by omega:q=0\/q=1\/q=2) with rfl|rfl|rfl<;>rfl
theorem Oa(v Vs)(aq:q<cnt v.op):(opl v Vs (cnt v.op)).getD q []=Vs.getD (fld v q).toNat []:=by
 have:=gK v.op;rcases (by omega:q=0\/q=1\/q=2) with rfl|rfl|rfl
 ·show(if 0<cnt v.op then _ else _)=_;rw[hK aq];rfl
 ·show(if 1<cnt v.op then _ else _)=_;rw[hK aq];rfl
 show(if 2<cnt v.op then _ else _)=_;rw[hK aq];rfl
theorem K5(v Vs)(aq:q<3)(h:¬q<cnt v.op):(opl v Vs (cnt v.op)).getD q []=[]:=by
 rcases (by omega:q=0\/q=1\/q=2) with rfl|rfl|rfl
 ·show(if 0<cnt v.op then _ else _)=_;rw[hJ h]
 ·show(if 1<cnt v.op then _ else _)=_;rw[hJ h]
 show(if 2<cnt v.op then _ else _)=_;rw[hJ h]
theorem jV{base e size:Nat}{xs}{W:World}(h:W.ownsRow base e size v n xs)(O:v.ownBlock=some k):base<=k/\k<W.heap.size:=by
 rcases h.2 with⟨rfl,_⟩|⟨g,cap,H,rfl,N,aA,_⟩
 ·simp[Value.ownBlock]at O
 have e:g=k:=by simpa[Value.ownBlock] using O
 subst e;refine⟨N,?_⟩;exact xdo
theorem pl{W W'}{us:List Value}{Vs:List (List Nat)}(h:∀j,j<k->∃b n c,us[j]? =some (.slice b n c)/\Cl W (.slice b n c) (Vs.getD j [])/\(0<n->∀p,b=some p->v.ownBlock≠some p.block))(q:Kept 0 0 W W'):
  ∀j,j<k->∃b n c,us[j]? =some (.slice b n c)/\Cl W' (.slice b n c) (Vs.getD j [])/\(0<n->∀p,b=some p->v.ownBlock≠some p.block):=λj hj=>by
 obtain⟨b,n,c,a1,a2,a3⟩:=h j hj
 exact⟨b,n,c,a1,a2.keep q,a3⟩
theorem uq(h:xss.length=k):(xss++[bd]).getD k []=bd:=by
 rw[yah,yar xaa,h,Nat.sub_self];rfl
theorem Ai(h:q<xs.length):xs.getD q 0∈xs:=by
 exact xjs
theorem K6(ok:okV ins vs k=true)(aj:(vs.getD k hM).op≠0):
  (1<=(vs.getD k hM).op/\(vs.getD k hM).op<=13)/\∀q,q<cnt (vs.getD k hM).op->0<=fld (vs.getD k hM) q/\fld (vs.getD k hM) q<k:=by
 unfold okV at ok;rw[hJ aj]at ok;simp only[Bool.and_eq_true]at ok;refine⟨?_,λq aq=>?_⟩
 ·by_cases c:0<=(vs.getD k hM).op/\(vs.getD k hM).op<=13
  ·omega
  have:=ok.2.2;rw[rh c]at this;cases this
 have h:=List.all_eq_true.1 ok.2.1 ((eW (vs.getD k hM)).getD q 0) (Ai (by rw[jP];exact aq));have R:=of_decide_eq_true h;rw[zx _ aq,<-N9 _ (hR (gK (vs.getD k hM).op))]at R;exact R
theorem PE(ok:okV ins vs k=true)(aj:(vs.getD k hM).op=0):
  0<=(vs.getD k hM).a/\(vs.getD k hM).a<ins.length/\1<=(vs.getD k hM).len/\(vs.getD k hM).len<=1000/\(vs.getD k hM).len=ins.getD (vs.getD k hM).a.toNat 0:=by
 have l:=iu ok;unfold okV at ok;rw[hK aj]at ok;simp only[Bool.and_eq_true]at ok;have:=of_decide_eq_true ok.2.1;exact⟨this.1,this.2,l.1,l.2,by simpa using ok.2.2⟩
def NC (w':World)(A B:Nat)(v:Vl)(x0 x1 x2:Value):Prop:=
 w'.cell? ⟨A,0,none⟩=some (.int .i64 v.op)/\w'.cell? ⟨A,0+1,none⟩=some (.int .i64 v.len)/\w'.cell? ⟨A,0+2,none⟩=some (.int .i64 v.a)/\w'.cell? ⟨A,0+3,none⟩=some (.int .i64 v.b)/\w'.cell? ⟨A,0+4,none⟩=some (.int .i64 v.c)/\w'.cell? ⟨A,0+5,none⟩=some (.float .f64 v.k)/\w'.cell? ⟨B,0,none⟩=some x0/\w'.cell? ⟨B,1,none⟩=some x1/\w'.cell? ⟨B,2,none⟩=some x2
theorem NC.of{v}(h:NC w A I v bL bI bJ)(e:∀g o u,(g=A\/g=I)->w.cell? ⟨g,o,none⟩=some u->J.cell? ⟨g,o,none⟩=some u):NC J A I v bL bI bJ:=by
 obtain⟨aj,B,R,h3,a8,bQ,bV,aA,aa⟩:=h;exact⟨e _ _ _ (.inl rfl) aj,e _ _ _ (.inl rfl) B,e _ _ _ (.inl rfl) R,e _ _ _ (.inl rfl) h3,e _ _ _ (.inl rfl) a8,e _ _ _ (.inl rfl) bQ,e _ _ _ (.inr rfl) bV,e _ _ _ (.inr rfl) aA,e _ _ _ (.inr rfl) aa⟩
theorem NC.keep{v}(h:NC w A I v bL bI bJ)(k:Kept 0 0 w J)(a7:A<w.heap.size)(aS:I<w.heap.size):NC J A I v bL bI bJ:=
 h.of λg o u aW ai=>jh k (by rcases aW with rfl|rfl;exact a7;exact aS) ai
theorem NC.far{aC bQ v}(h:NC w A I v bL bI bJ)(aW:w.grownBy J aC)(ay:∀i,aC=some i->i<bQ)(e:bQ<=A)(f:bQ<=I)(a7:A<w.heap.size)(aS:I<w.heap.size):NC J A I v bL bI bJ:=
 h.of λg o u t ai=>by
  rw[aW.cell_far ⟨g,o,none⟩ (by rcases t with rfl|rfl;exact a7;exact aS) (λc=>hR (ay g c.symm))]
  exact ai
theorem cC.qck(h:Zp:=by
 clear aH h f s S;go_enter func19,ntmps19;go_wp2_with fail;generalize w.alloc (eY a1 Y c1 a2 U c2 a3 Z c3)=aB at aI aP aw HK cd⊢;go_loopw [5,6] (λu i W=>∃k:Nat,k<=U/\i=hI k/\V (AR W aB.heap.size u k (eU xss vs k))/\V (Kept 0 0 aB W)) (λ_ i _=>U-(intOf i).toNat)
 case atStart=>exact⟨0,Nat.zero_le _,rfl,AR.nil _ _ _,Kept.refl _ _ _⟩
 case round=>
  obtain⟨k,O,rfl,hP,aH⟩:=hrel;have aO:=(G0.keep aI.o aH.o).q1;by_cases aF:k<U
  ·have bu:=GS.keep aP.o aH.o;rcases bu.v.at_ with bM|⟨aG,bF,b1,aZ,be,bz,bE⟩
   ·omega
   have bg:=bE k aF;have ok:okV ins vs k=true:=List.all_eq_true.1 bT.o k (List.mem_range.2 aF)
   have a6:(vs.getD k hM).k<18446744073709551616:=by
    rw[yah];cases b3:vs[k]? with
    |none=>decide
    |some v=>exact bu.v.lt v (List.mem_of_getElem? b3)
   have ba:V _:=a6;exact qfl
  obtain rfl:k=U:=xaa;obtain⟨a,cap,y,rfl,(R1:V _),(R2:V _)⟩:=hP.o.ss;have R3:V _:=Kept.trans HK.o aH.o;clear hP aH;go_wp2;go_ret;exact⟨a,cap,y,rfl,R1.o,R2.o,R3.o⟩):Zp:=h
theorem cC.qfm(h:Zp:=by
 have cg:V _:=F;obtain⟨us,aT,(X:V _)⟩:=hP.o;have aL:V (∀i,u5.ownBlock=some i->i<wr.heap.size):=λi hi=>(jV aT hi).2;have ak:V _:=kO aT F;clear aT;by_cases bZ:(vs.getD k hM).op=0
 ·have bb:V (eU xss vs (k+1)=eU xss vs k++[xss.getD (vs.getD k hM).a.toNat []]):=by
   show _=_;rw[eU];unfold one;rw[hK bZ]
  have cr:=PE ok bZ;rw[ae]at cr;have an:=bX.o (vs.getD k hM).a.toNat xaa;rw[<-cr.2.2.2.2]at an;clear aZ be bz bE ok bu F a6;generalize vs.getD k hM=v at bg cg ak bb bZ cr an ba;obtain⟨op,len,A,I,C,K⟩:=v;simp only at bZ cr an bb;subst bZ;obtain⟨x,rfl⟩:∃x:Nat,A=x:=⟨A.toNat,by omega⟩
  rw[Int.toNat_natCast]at an bb;have cI:x<m:=hR ad.o
  rcases (SS.keep aw.o (Kept.trans aH.o cg.o)).at_ with bM|⟨bH,ab,cf,aU,aY⟩
  ·omega
  obtain⟨N,aa,br,ag,aD⟩:=aY x cI;rcases aD.at_ with bM|⟨ah,a5,aQ,bI,bJ,cb,ci⟩
  ·omega
  have bl:V _:=Ij _ ah a5 (xss.getD x []).length aa (xss.getD x []) xaa xaa rfl aD.lt ci;subst b1 cf aQ;clear aU aY ag aD bI bJ cb ci;generalize xss.getD x []=bd at br bl bb an;obtain⟨l,ar⟩:∃l,l=bd.length:=⟨_,rfl⟩
  rw[<-ar]at br bl an;have am:V (l=bd.length/\1<=l/\l<=1000):=⟨ar,by omega,by omega⟩
  clear cr an ar;obtain⟨bD,d1,d2,d3,d4,d5⟩:=bg;simp only at bD d1 d2 d3 d4 d5;go_wp2_with fail;refine yai bl.o ?_;rintro e bA ⟨G,cap,rfl,aA,z,cj,b0⟩;have aT:=kO ak.o b0;have bp:aB.heap.size<=bA.heap.size:=(Kept.trans aH.o (Kept.trans cg.o b0)).size;clear bl br bD d1 d2 d3 d4 d5 aO;go_wp2_with (first|(at_builtin;refine wpList_append_lies _ rfl _ _ 30 rfl aB.heap.size 47 bK (.slice none 0 0) 1 24 underlying30 hi bU bO bR rfl xab _ _ us rfl (aT.alloc _) ⟨bA.heap.size,0,none⟩ 1 1 [hH G l cap] rfl rfl ?c1 ?c2 xab ?c3 ?c4 ?c5 _ rfl ?_))
  case c1=>exact cell_one_new _ _ _
  case c2=>intro u aJ;simp at aJ;subst aJ;rfl
  case c3=>unfold maxLen;omega
  case c4=>omega
  case c5=>simp;omega
  intro g9 cap9 bo bB bw b7 _
  have R1:V (AR bo aB.heap.size (hH g9 (k+1) cap9) (k+1) (eU xss vs (k+1))):=
   AR.step (W:=bA) (Vs:=eU xss vs k) aT (pl X.o (Kept.trans cg.o b0)) (x:=bd) ⟨_,_,_,bd,rfl,aA,z.fs,rfl⟩ (λ_ p aK c=>by
    cases aK
    have:=(jV ak.o (k:=G) c).2
    omega) bB bw (by rcases b7 with h|h;exact .inl h;exact .inr (by rw[h];simp)) (λj hj=>i5 _ _ hj) (by rw[bb.o];exact uq (iF _ _ _))
  have R2:V _:=jq (base:=aB.heap.size) bw (λi hi=>(jV aT hi).1) ((Kept.trans aH.o (Kept.trans cg.o b0)).trans (ez 0 0 bA _)) yad;clear bB bw b7 aT b0 z X ak cg hP aH;exact xer
 have bb:V (eU xss vs (k+1)=eU xss vs k++[kop (vs.getD k hM) (eU xss vs k)]):=by
  show _=_;rw[eU];unfold one;rw[hJ bZ];rfl
 have bV:=K6 ok bZ;have bQ:V _:=bV.2;have ay:=bV.1;clear bV aZ be bz bE ok bu F a6;generalize vs.getD k hM=v at bg cg ak bb bZ ay bQ ba;subst b1;have ck:V _:=B5 wr v;have aM:V (wr.heap.size<(wr.alloc (eK v.op v.len v.a v.b v.c v.k)).heap.size):=by show _<_;simp
 obtain⟨bD,d1,d2,d3,d4,d5⟩:=bg;have bj:(v.op==0)=false:=yam bZ;clear bZ;obtain⟨af,cc⟩:∃af,af=wr:=⟨_,rfl⟩
 subst cc;go_wp2_with fail;clear bD d1 d2 d3 d4 d5 aO bj;have az:V _:=(⟨us,ak.o,pl X.o cg.o⟩:AR _ aB.heap.size _ k (eU xss vs k))
 have aV:V _:=Kept.trans aH.o cg.o;have cy:=cg;clear cg ak X aH;generalize af.alloc (eK v.op v.len v.a v.b v.c v.k)=aX at ck aM az aV cy⊢;go_loopw [8,9] (λa i W=>∃q:Nat,q<=3/\i=hI q/\V (AR W aX.heap.size a q (opl v (eU xss vs k) (cnt v.op)))/\V (Kept 0 0 aX W)) (λ_ i _=>3-(intOf i).toNat)
 case atStart=>exact⟨0,Nat.zero_le _,rfl,AR.nil _ _ _,Kept.refl _ _ _⟩
 case round=>
  obtain⟨q,aq,rfl,a7,r⟩:=hrel;obtain⟨s0,ax,aN,bC,cp,au⟩:=ck.o.keep aM.o r.o yaa;have HO:V _:=iM v.op wr xaa xaa;rw[yD ay.1 ay.2]at HO;have ai:=gK v.op;by_cases b6:q<3
  ·obtain⟨t,al,aS⟩:=a7.o;by_cases bf:q<cnt v.op
   ·have cl:=bQ.o q bf;have tq:(q:Int)<(cnt v.op:Int):=xaa;obtain⟨o,av⟩:∃o:Nat,fld v q=o:=⟨(fld v q).toNat,by omega⟩
    have bq:=nf wr v q xaa;have b2:=Oa v (eU xss vs k) bf;rw[av]at bq cl b2;rw[Int.toNat_natCast]at b2;have bv:V _:=bq;have HE:V _:=b2;obtain⟨cX,cD,cG,cz,cU,c7⟩:=AR.cell az.o xaa;obtain⟨N,m1,aa,br,ag,_⟩:=c7 o xaa;have cw:V _:=ag;have P:o<k:=xaa;subst cG;clear c7 cz ag;go_wp2_with (first|(go_at_call 37;refine yai HO.o ?_;rintro e bm ⟨rfl,rfl⟩)|fail);refine yai bv.o ?_;rintro e bA ⟨rfl,bc⟩;have H:=kO al bc;have aD:=jh (Kept.trans r.o bc) cU br;have bp:aX.heap.size<=bA.heap.size:=(Kept.trans r.o bc).size;clear s0 ax aN bC cp au bv HO;go_wp2_with (first|(at_builtin;refine wpList_append_lies _ rfl _ _ 30 rfl aX.heap.size 47 bK (.slice none 0 0) 1 24 underlying30 hi bU bO bR rfl xab _ _ t rfl (H.alloc _) ⟨bA.heap.size,0,none⟩ 1 1 [.slice N m1 aa] rfl rfl ?c1 ?c2 xab ?c3 ?c4 ?c5 _ rfl ?_))
    case c1=>exact cell_one_new _ _ _
    case c2=>intro u aJ;simp at aJ;subst aJ;rfl
    case c3=>unfold maxLen;omega
    case c4=>omega
    case c5=>simp;omega
    intro g9 cap9 bo bB bw b7 _
    have R1:V (AR bo aX.heap.size (hH g9 (q+1) cap9) (q+1) (opl v (eU xss vs k) (cnt v.op))):=
     AR.step (W:=bA) (Vs:=opl v (eU xss vs k) (cnt v.op)) H (pl aS bc) (x:=(eU xss vs k).getD o []) (Cl.keep cw.o (Kept.trans r.o bc)) (λhn p aK c=>by
      have B:=(jV H c).1
      have R:=Cl.lt cw.o hn p aK
      omega) bB bw (by rcases b7 with h|h;exact .inl h;exact .inr (by rw[h];simp)) (λj hj=>rfl) HE.o
    have R2:V _:=jq (base:=aX.heap.size) bw (λi hi=>(jV H hi).1) ((Kept.trans r.o bc).trans (ez 0 0 bA _)) yad;clear bB bw b7 H bc aS al a7 r aD br;exact xiw
   have tq:¬((q:Int)<(cnt v.op:Int)):=xaa;have HE:V _:=K5 v (eU xss vs k) b6 bf;have bp:aX.heap.size<=wr.heap.size:=r.o.size;go_wp2_with (first|(go_at_call 37;refine yai HO.o ?_;rintro e bm ⟨rfl,rfl⟩)|(at_builtin;refine wpList_append_lies _ rfl _ _ 30 rfl aX.heap.size 47 bK (.slice none 0 0) 1 24 underlying30 hi bU bO bR rfl xab _ _ t rfl (al.alloc _) ⟨wr.heap.size,0,none⟩ 1 1 [.slice none 0 0] rfl rfl ?c1 ?c2 xab ?c3 ?c4 ?c5 _ rfl ?_))
   case c1=>exact cell_one_new _ _ _
   case c2=>intro u aJ;simp at aJ;subst aJ;rfl
   case c3=>unfold maxLen;omega
   case c4=>omega
   case c5=>simp;omega
   intro g9 cap9 bo bB bw b7 _
   have R1:V (AR bo aX.heap.size (hH g9 (q+1) cap9) (q+1) (opl v (eU xss vs k) (cnt v.op))):=
    AR.step (W:=wr) (Vs:=opl v (eU xss vs k) (cnt v.op)) al aS (x:=[]) (Cl.nil _) (λhn=>absurd hn (Nat.lt_irrefl _)) bB bw (by rcases b7 with h|h;exact .inl h;exact .inr (by rw[h];simp)) (λj hj=>rfl) HE.o
   have R2:V _:=jq (base:=aX.heap.size) bw (λi hi=>(jV al hi).1) (Kept.trans r.o (ez 0 0 wr _)) yad;clear bB bw b7 aS al a7 r s0 ax aN bC cp au HO;exact xiw
  obtain rfl:q=3:=xaa;obtain⟨Q,cW,cH,ct,cV,cA⟩:=AR.cell a7.o xaa;obtain⟨bL,bh,bk,bY,bG,_⟩:=cA 0 xaa;obtain⟨bI,aU,a8,br,f1,_⟩:=cA 1 xaa;obtain⟨bJ,aY,p2,ag,f2,_⟩:=cA 2 xaa;have HE:V (∀m,_):=λm=>zw (wr.drewN m) v ba.o _ _ _ _ _ _ (bG.keep (eM 0 0 wr m)) (f1.keep (eM 0 0 wr m)) (f2.keep (eM 0 0 wr m)) (kD (bx.o k _));obtain⟨us,ao,co⟩:=AR.keep az.o r.o;have bW:V _:=co;have ap:V _:=Kept.trans aV.o r.o;have c6:aB.heap.size<=wr.heap.size:=ap.o.size;subst cH;have cB:=ct;clear cA ct bG f1 f2 co a7 HO az;go_wp2_with fail;have aW:V (NC wr af.heap.size Q v (.slice bL bh bk) (.slice bI aU a8) (.slice bJ aY p2)):=⟨s0,ax,aN,bC,cp,au,bY,br,ag⟩
  have g:V (aX.heap.size<=Q/\Q<wr.heap.size/\af.heap.size<wr.heap.size/\af.heap.size<=Q):=⟨cB,cV,hS r.o.size aM.o,hR aM.o⟩
  go_region_held3 (λJ=>J.cell? ⟨af.heap.size,0,none⟩=some (hI v.op)/\J.cell? ⟨af.heap.size,0+1,none⟩=some (hI v.len)/\J.cell? ⟨af.heap.size,0+2,none⟩=some (hI v.a)/\J.cell? ⟨af.heap.size,0+3,none⟩=some (hI v.b)/\J.cell? ⟨af.heap.size,0+4,none⟩=some (hI v.c)/\J.cell? ⟨af.heap.size,0+5,none⟩=some (.float .f64 v.k)/\J.cell? ⟨Q,0,none⟩=some (.slice bL bh bk)/\J.cell? ⟨Q,1,none⟩=some (.slice bI aU a8)/\J.cell? ⟨Q,2,none⟩=some (.slice bJ aY p2)) (go_keep)
   (first
    |(go_at_call 40;refine yai (HE.o _) ?_;rintro e bA ⟨u,rfl,⟨b9,bn,c5,cu,rfl,cq,ch,ev⟩,bc⟩;have cC:=NC.keep aW.o (Kept.trans (eM 0 0 wr 1) bc) g.o.2.2.1 g.o.2.1;obtain⟨b4,bi,ce,cF,cJ,cK,cM,cN,cO⟩:=cC)
    |(refine step_append_lies _ rfl (.tmp 55) (.tmp 67) 30 rfl aB.heap.size 47 bK (.slice none 0 0) 1 24 underlying30 hi bU bO bR rfl xab _ _ us (by simp[Act.eval]) ((kO ao (Kept.trans (eM 0 0 wr 1) bc)).alloc _) ⟨bA.heap.size,0,none⟩ 1 1 [.slice b9 bn c5] (by simp[Act.eval]) rfl (cell_one_new _ _ _) (by intro u aJ;simp at aJ;subst aJ;rfl) xab (by unfold maxLen;omega) xaa (by have:=bc.size;simp at this;simp;omega) _ rfl ?_;intro g9 cap9 bo bB bw b7 _;have bS:=NC.far (NC.keep aW.o ((Kept.trans (eM 0 0 wr 1) bc).trans (ez 0 0 bA (.cells #[.slice b9 bn c5] 47))) g.o.2.2.1 g.o.2.1) bw aL.o yad g.o.2.2.2 (by have:=bc.size;have:=g.o;simp at*;omega) (by have:=bc.size;have:=g.o;simp at*;omega);obtain⟨bN,bP,b8,cx,cP,cQ,cR,cS,cT⟩:=bS))
  have aR:Kept 0 0 wr bA:=Kept.trans (eM 0 0 wr 1) bc
  have R1:V (AR bo aB.heap.size (hH g9 (k+1) cap9) (k+1) (eU xss vs (k+1))):=
   AR.step (W:=bA) (Vs:=eU xss vs k) (kO ao aR) (pl bW.o aR) (x:=kop v (eU xss vs k)) (Cn.cl ⟨_,_,_,cu,rfl,cq,ch,ev⟩) (λaj p aK c=>by
    have B:=(jV ao c).2
    have R:=Cn.ge (W:=bA) (lo:=(wr.drewN 1).heap.size) ⟨_,_,_,cu,rfl,cq,ch,ev⟩ aj p aK
    have h3:(wr.drewN 1).heap.size=wr.heap.size:=rfl
    omega) bB bw (by rcases b7 with h|h;exact .inl h;exact .inr h) (λj hj=>i5 _ _ hj) (by rw[bb.o];exact uq (iF _ _ _))
  have R2:V _:=jq (base:=aB.heap.size) bw (λi hi=>(jV ao hi).1) ((Kept.trans ap.o aR).trans (ez 0 0 bA _)) yad;clear bB bw b7 ao bW HE ap aW g bc aR cq ch ev bN bP b8 cx cP cQ cR cS cT b4 bi ce cF cJ cK cM cN cO s0 ax aN bC cp au;exact xer):Zp:=h
open cC in
theorem Ik(w a1 a2 a3 b Y c1 U c2 Z c3 m b5 ins vs outs xss)(f:GS w a1 Y a2 U a3 Z ins vs outs)(s:SS w b m xss)(S:gZ xss)(h:(List.range U).all (okV ins vs)=true)(R:inB ins xss=true)(b8:U<=2000):
  Calls prog 19 #[eZ a1 Y c1 a2 U c2 a3 Z c3,.slice b m b5] w λe J=>∃a cap y,e=.returned (.slice a U cap)/\SS J a U y/\(∀j,j<U->fU (y.getD j []) ((eU xss vs U).getD j []))/\Kept 0 0 w J:=by
 obtain⟨bK,hi,bU,bO,bR⟩:=info_parts BY;have ae:=f.i.len;have a9:=f.v.len;have bT:V _:=h
 have bx:V _:=kr (vs:=vs) S (λk=>by
  rw[yah]
  cases b3:vs[k]? with
  |none=>decide
  |some v=>exact f.v.lt v (List.mem_of_getElem? b3))
 have bX:V (∀i,i<Y->((xss.getD i []).length:Int)=ins.getD i 0):=λi hi=>by
  have:=R
  unfold inB at this
  simp only[Bool.and_eq_true,ae]at this
  simpa using List.all_eq_true.1 this.2 i (List.mem_range.2 hi)
 have ad:V (m=Y):=by
  exact xiu
 have aH:=ez 0 0 w (eY a1 Y c1 a2 U c2 a3 Z c3);exact qcj
theorem dG.qey(h:Zp:=by
 have C:V _:=S;have t:V _:=mV (vs:=vs) R U aL;have aH:=ez 0 0 w (eY a1 Y c1 a2 U c2 a3 Z c3);have bv:V _:=ri _ a1 a2 a3 Y c1 U c2 Z c3 ins vs outs (f.keep aH);rw[h]at bv;have aI:V _:=fE w (.slice a1 Y c1) (.slice a2 U c2) (.slice a3 Z c3);have aP:V _:=f.keep aH;have aw:V _:=s.keep aH;have HK:V _:=aH;clear aH h f s av aL S;go_enter func6,ntmps6;go_wp2_with fail;generalize w.alloc (eY a1 Y c1 a2 U c2 a3 Z c3)=aB at bv aI aP aw HK⊢;refine yai bv.o ?_;rintro e af ⟨rfl,ao⟩;obtain⟨_,ba,aO,aR⟩:=G0.keep aI.o ao;have bQ:V _:=N8 af _ _ a1 b Y m c1 b5 ins xss (GS.keep aP.o ao).i (SS.keep aw.o ao) xaa;exact qhb):Zp:=h
theorem dG.qhc(h:Zp:=by
 obtain⟨_,ba,aO,aR⟩:=G0.keep aI.o aM;have cd:V _:=Ik aX a1 a2 a3 b Y c1 U c2 Z c3 m b5 ins vs outs xss (GS.keep aP.o aM) (SS.keep aw.o aM) C.o bT.o R b8;have aV:V _:=aM;clear d3 aM bQ bN;go_wp2_with fail;clear ba aO aR;refine yai cd.o ?_;rintro e bm ⟨cw,cD,y,rfl,(bf:V _),(F:V _),bZ⟩;have bX:V _:=Kept.trans aV.o bZ;clear cd aV bZ;go_wp2_with fail;go_loopw [7,8] (λu i W=>∃k:Nat,k<=Z/\i=hI k/\V (AR W bm.heap.size u k (outs.map λo=>(eU xss vs U).getD o.toNat []))/\V (Kept 0 0 bm W)) (λ_ i _=>Z-(intOf i).toNat)
 case atStart=>exact⟨0,Nat.zero_le _,rfl,AR.nil _ _ _,Kept.refl _ _ _⟩
 case round=>
  obtain⟨j,hj,rfl,hP,aH⟩:=hrel;have aR:=(G0.keep aI.o (Kept.trans bX.o aH.o)).q2;by_cases aF:j<Z
  ·rcases (GS.keep aP.o (Kept.trans bX.o aH.o)).o.at_ with bM|⟨aG,bF,b1,aZ,be,bz,bE⟩
   ·omega
   have c1:=bE j aF;have g:fI (outs.getD j 0) U=true:=List.all_eq_true.1 HO.o (outs.getD j 0) (Ai xaa);have B:=of_decide_eq_true g;have bV:=qQ outs (eU xss vs U) (j:=j) xaa;obtain⟨o,av⟩:∃o:Nat,outs.getD j 0=o:=⟨(outs.getD j 0).toNat,by omega⟩
   rw[av,Int.toNat_natCast]at bV;rw[av]at c1 B;have K:V _:=bV;have Q:o<U:=xaa;rcases (SS.keep bf.o aH.o).at_ with bM|⟨bH,ab,cf,aU,aY⟩
   ·omega
   obtain⟨N,aa,br,ag,aD⟩:=aY o Q;have bq:=F.o o Q
   have b4:1<=(y.getD o []).length/\(y.getD o []).length<=1000:=by
    have ax:=jc bq;exact xjl
   have x:V _:=bq;rcases aD.at_ with bM|⟨ah,a5,aQ,bI,bJ,cb,ci⟩
   ·omega
   have bl:V _:=Ij wr ah a5 (y.getD o []).length aa (y.getD o []) b4.1 xaa rfl aD.lt ci;obtain⟨us,aT,cn⟩:=hP.o;have X:V _:=cn;subst b1 cf aQ;clear aZ be bz bE aU aY ag aD bI bJ cb ci bV g B hP av bq cn;generalize y.getD o []=bd at br bl x b4;obtain⟨l,ar⟩:∃l,l=bd.length:=⟨_,rfl⟩
   rw[<-ar]at br bl b4;clear ar;go_wp2_with fail;refine yai bl.o ?_;rintro e bA ⟨G,cap,rfl,aA,z,cj,b0⟩;have H:=kO aT b0;have bp:bm.heap.size<=bA.heap.size:=(Kept.trans aH.o b0).size;clear bl br aR c1;go_wp2_with (first|(at_builtin;refine wpList_append_lies _ rfl _ _ 30 rfl bm.heap.size 47 bK (.slice none 0 0) 1 24 underlying30 hi bU bO bR rfl xab _ _ us rfl (H.alloc _) ⟨bA.heap.size,0,none⟩ 1 1 [hH G l cap] rfl rfl ?c1 ?c2 xab ?c3 ?c4 ?c5 _ rfl ?_))
   case c1=>exact cell_one_new _ _ _
   case c2=>intro u aJ;simp at aJ;subst aJ;rfl
   case c3=>unfold maxLen;omega
   case c4=>omega
   case c5=>simp;omega
   intro g9 cap9 bo bB bw b7 _
   have R1:V (AR bo bm.heap.size (hH g9 (j+1) cap9) (j+1) (outs.map λo=>(eU xss vs U).getD o.toNat [])):=
    AR.step (W:=bA) (Vs:=outs.map λo=>(eU xss vs U).getD o.toNat []) H (pl X.o b0) (x:=(eU xss vs U).getD o []) ⟨_,_,_,bd,rfl,aA,z.fs,x.o⟩ (λ_ p aK c=>by
     cases aK
     have:=(jV aT (k:=G) c).2
     omega) bB bw (by rcases b7 with h|h;exact .inl h;exact .inr (by rw[h];simp)) (λ_ _=>rfl) K.o
   have R2:V _:=jq (base:=bm.heap.size) bw (λi hi=>(jV H hi).1) ((Kept.trans aH.o b0).trans (ez 0 0 bA _)) yad;clear bB bw b7 aT H b0 z X aH;go_wp2;go_roundw
   case rel=>exact⟨j+1,by omega,by go_num,R1,R2⟩
   case measure=>simp[intOf];omega
  obtain rfl:j=Z:=xaa;obtain⟨a,cap,r,rfl,aC,a0⟩:=AR.ss hP.o;have R1:V _:=aC
  have R2:V (∀i,i<j->fU (r.getD i []) ((eU xss vs U).getD (outs.getD i 0).toNat [])):=λi hi=>by
   rw[<-qQ outs (eU xss vs U) xaa]
   exact a0 i hi
  have R3:V (Kept 0 0 w wr):=Kept.trans HK.o (Kept.trans bX.o aH.o);clear aC a0 hP aH;go_wp2;go_ret2
  exact⟨a,cap,r,rfl,R1.o,R2.o,R3.o⟩):Zp:=h
open dG in
theorem Aj(w a1 a2 a3 b Y c1 U c2 Z c3 m b5 ins vs outs xss)(f:GS w a1 Y a2 U a3 Z ins vs outs)(s:SS w b m xss)(S:gZ xss)(h:okG ins vs outs=true)(R:inB ins xss=true):
  Calls prog 6 #[eZ a1 Y c1 a2 U c2 a3 Z c3,.slice b m b5] w λe J=>∃a cap y,e=.returned (.tuple #[.slice a Z cap,hI 0])/\SS J a Z y/\(∀j,j<Z->fU (y.getD j []) ((eU xss vs U).getD (outs.getD j 0).toNat []))/\Kept 0 0 w J:=by
 obtain⟨bK,hi,bU,bO,bR⟩:=info_parts BY;exact qex
def Bt (ins:List Int):Nat->Nat
 |0=>0
 |j+1=>Bt ins j+(ins.getD j 0).toNat
def inW (ys:List Int)(p:Nat):Nat:=
 if lM ys p%16=9 then cop .quo (floatOfInt .f64 ((lM ys p:Int)%7-3)) 4613937818241073152
 else if lM ys p=250 then cop .quo 4607182418800017408 0
 else if lM ys p=251 then cop .quo 0 0
 else if lM ys p=252 then Op.negFloat .f64 0
 else if lM ys p=253 then cop .mul 9214871658872686752 (floatOfInt .f64 ((lM ys p:Int)%7-3))
 else floatOfInt .f64 ((lM ys p:Int)%7-3)
def uK (ys:List Int)(q n:Nat):List Nat:=(List.range n).map λk=>inW ys (q+k)
def inN (ys ins:List Int):List (List Nat):=(List.range ins.length).map λj=>uK ys (Bt ins j) (ins.getD j 0).toNat
theorem EA(bd q n):uK bd q (n+1)=uK bd q n++[inW bd (q+n)]:=by
 unfold uK;rw[List.range_succ,List.map_append];rfl
theorem Cv(bd)(h:j<ins.length):(inN bd ins).getD j []=uK bd (Bt ins j) (ins.getD j 0).toNat:=by
 unfold inN;exact mi (λj=>uK bd (Bt ins j) (ins.getD j 0).toNat) h
theorem EB{xs x y}(h:fU xs bd)(e:fb x=fb y):fU (xs++[x]) (bd++[y]):=by
 unfold fU at*;simp[h,e]
theorem SS.words(f:SS w a n xss):gZ xss:=λk x au=>by
 by_cases c:k<n
 ·rcases f.at_ with z|⟨g,off,_,_,h⟩
  ·omega
  ·obtain⟨b,c,_,_,U⟩:=h k c
   exact U.lt x au
 ·rw[yah,List.getElem?_eq_none (hW f.len)]at au
  cases au
theorem Il{ap z bM T B aa R'}(h:w.ownsRow I T 1 v n (B.map (Value.float .f64)++[.float .f64 z]))(ad:fU B aa/\B.length=ap/\∀x∈B,x<18446744073709551616)(C:R'=aa++[bM])(e:fb z=fb bM)(bp:z<18446744073709551616):
  ∃P:List Nat,w.ownsRow I T 1 v n (P.map (Value.float .f64))/\fU P R'/\P.length=ap+1/\∀x∈P,x<18446744073709551616:=by
 refine⟨B++[z],by rw[List.map_append];exact h,by rw[C];exact EB ad.1 e,by rw[yak,ad.2.1];rfl,λx au=>?_⟩;rcases List.mem_append.1 au with c|c
 ·exact ad.2.2 x c
 rw[List.mem_singleton.1 c];exact bp
theorem K7{lo hi' b ca aQ cm bd}(f:IS w lo hi' a n ins)(bV:YS w b aQ bd)(az:aQ<=1048576)(hn:n<=21)(ah:∀j,j<n->1<=ins.getD j 0/\ins.getD j 0<=1000):
  Calls prog 7 #[.slice a n ca,.slice b aQ cm,.bool true] w λe J=>∃af cap y,e=.returned (.slice af n cap)/\SS J af n y/\(∀j,j<n->fU (y.getD j []) ((inN bd ins).getD j []))/\Kept 0 0 w J:=by
 obtain⟨bK,hi,bU,bO,bR⟩:=info_parts BY;obtain⟨cq,Z,ad,ae,ag⟩:=info_parts lG;have aP:V _:=f;have bQ:V _:=bV;have HL:V _:=ah;have bD:V (ins.length=n):=f.len;have f1:=@kK prog;have f2:=@mL prog;have f3:=tP;clear f bV ah;go_enter func7,ntmps7;go_wp2_with fail;go_loopw [8,9,10] (λu p i W=>∃k q:Nat,k<=n/\q<=1000*k/\i=hI k/\p=hI q/\V (q=Bt ins k)/\V (AR W w.heap.size u k (inN bd ins))/\V (Kept 0 0 w W)) (λ_ _ i _=>n-(intOf i).toNat)
 case atStart=>exact⟨0,0,Nat.zero_le _,Nat.zero_le _,rfl,rfl,rfl,AR.nil _ _ _,Kept.refl _ _ _⟩
 case round=>
  obtain⟨aD,C⟩:∃aD,aD=wr:=⟨_,rfl⟩
  subst C;obtain⟨k,q,O,aq,rfl,rfl,Y,a7,aH⟩:=hrel;by_cases aF:k<n
  ·rcases (aP.o.keep aH.o yaa).at_ with bM|⟨g,off,b1,aZ,be,bz,bE⟩
   ·omega
   cases b1;have cT:=HL.o k aF;obtain⟨m,Q⟩:∃m:Nat,ins.getD k 0=(m:Int):=⟨(ins.getD k 0).toNat,by omega⟩
   have o:V ((inN bd ins).getD k []=uK bd q m):=by
    show _=_;rw[Cv bd (hU bD.o aF),Q,Y.o];rfl
   have al:V (Bt ins (k+1)=q+m):=by show Bt ins k+_=_;rw[Q,Y.o];rfl
   have ce:V (aD.cell? ⟨g,off+k,none⟩=some (hI m)/\g<aD.heap.size):=⟨by rw[<-Q];exact bE k aF,bz⟩
   rw[Q]at cT;have ay:m<=1000:=xaa;have H:V (1<=m):=by show 1<=m;omega
   obtain⟨us,(ak:V _),(X:V _)⟩:=a7.o;clear aZ be bz bE cT Q a7;have bH:=ce.o.1;go_wp2_with fail;clear bH;go_loopw [9,11,12] (λp v j W=>∃(ap:Nat) (B:List Nat),ap<=m/\p=hI ((q:Int)+ap)/\j=hI ap/\V (W.ownsRow aD.heap.size 49 1 v ap (B.map (Value.float .f64)))/\V (fU B (uK bd q ap)/\B.length=ap/\∀x∈B,x<18446744073709551616)/\V (Kept 0 0 aD W)) (λ_ _ j _=>m-(intOf j).toNat)
   case atStart=>exact⟨0,[],Nat.zero_le _,by simp,rfl,yav _ _ _ _,⟨rfl,rfl,λx au=>by cases au⟩,Kept.refl _ _ _⟩
   case round=>
    obtain⟨ap,B,K,rfl,rfl,av,S,F⟩:=hrel;have ar:=F.o.cell (p:=⟨g,off+k,none⟩) ce.o.2 (by show ¬(0<=g/\g<0);omega);rw[ce.o.1]at ar;by_cases l:ap<m
    ·have bP:V (Calls prog 21 #[.slice b aQ cm,hI ((q:Int)+ap)] wr λe J=>e=.returned (hI (lM bd (q+ap):Int))/\wr=J):=(PD (cap:=cm) (bQ.o.keep (aH.o.trans F.o)) az (q+ap)).mono λ_ _ h=>⟨h.1,h.2.symm⟩
     have s:=Ii bQ.o (q+ap);have aw:V _:=EA bd q ap;obtain⟨bM,bp⟩:∃bM,inW bd (q+ap)=bM:=⟨_,rfl⟩
     rw[bp]at aw;unfold inW at bp;have r:V _:=bp.symm;clear bp;generalize lM bd (q+ap)=t at bP s r;have aT:=av.o;have cc:aD.heap.size<=wr.heap.size:=F.o.size;clear av;rcases (by omega:t%16=9\/t=250\/t=251\/t=252\/t=253\/(t%16≠9/\t≠250/\t≠251/\t≠252/\t≠253)) with c|c|c|c|c|c
     case' inl=>have bx:V _:=r.o;rw[hK c]at bx
     case' inr.inl=>have bx:V _:=r.o;rw[hJ xaa,hK c]at bx
     case' inr.inr.inl=>have bx:V _:=r.o;rw[hJ xaa,hJ xaa,hK c]at bx
     case' inr.inr.inr.inl=>have bx:V _:=r.o;rw[hJ xaa,hJ xaa,hJ xaa,hK c]at bx
     case' inr.inr.inr.inr.inl=>have bx:V _:=r.o;rw[hJ xaa,hJ xaa,hJ xaa,hJ xaa,hK c]at bx
     case' inr.inr.inr.inr.inr=>have bx:V _:=r.o;rw[hJ xaa,hJ xaa,hJ xaa,hJ xaa,hJ xaa]at bx;obtain⟨c,c2,c3,c4,c5⟩:=c
     all_goals
      clear r
      go_wp2_with (first
       |(go_at_call 21;refine yai bP.o ?_;rintro _ _ ⟨rfl,rfl⟩)
       |(at_builtin;refine wpList_append_lies _ rfl _ _ 47 rfl aD.heap.size 49 cq (.float .f64 0) 1 8 underlying47 Z ad ae ag rfl xab _ _ (B.map (Value.float .f64)) rfl ((kO aT (eM 0 0 _ _)).alloc _) ⟨wr.heap.size,0,none⟩ 1 1 [.float .f64 ?_] rfl rfl ?c1 ?c2 xab ?c3 ?c4 ?c5 _ rfl ?_)
       |(at_builtin;refine wpList_append_lies _ rfl _ _ 47 rfl aD.heap.size 49 cq (.float .f64 0) 1 8 underlying47 Z ad ae ag rfl xab _ _ (B.map (Value.float .f64)) rfl (aT.alloc _) ⟨wr.heap.size,0,none⟩ 1 1 [.float .f64 ?_] rfl rfl ?c1 ?c2 xab ?c3 ?c4 ?c5 _ rfl ?_))
      case c1=>exact cell_one_new _ _ _
      case c2=>intro u aJ;simp at aJ;subst aJ;rfl
      case c3=>unfold maxLen;omega
      case c4=>omega
      case c5=>simp;omega
      intro g9 cap9 bo bB bw b7 _
      obtain⟨P,(R1:V _),(R3:V _)⟩:=Il bB S.o aw.o (by have bm:=congrArg fb bx.o.symm;first|exact bm|exact(ik _ _ _ _).trans bm|(subst c;exact(ik _ _ _ _).trans bm)) (by first|exact iE _ _ _ _|exact qE _|exact A2 xab)
      have R2:V (Kept 0 0 aD bo):=jq (base:=aD.heap.size) bw (λi hi=>(jV aT hi).1) (by first|exact F.o.trans (ez 0 0 wr _)|exact(F.o.trans (ez 0 0 wr _)).trans (eM 0 0 _ _)) yad
      clear bB bw b7 aT bP F bx aw
      go_wp2
      go_roundw
      case rel=>exact⟨ap+1,P,by omega,by go_num,by go_num,R1,R3,R2⟩
      case measure=>simp[intOf];omega
    obtain rfl:ap=m:=xaa;have aT:=av.o;obtain⟨(am:V _),R,aB⟩:=S.o;obtain⟨G,cap,rfl,N,aA,ab⟩:=FO.of_own aT (hR H.o) R aB;clear R aB S;have z:=kO ak.o F.o;have cc:w.heap.size<=wr.heap.size:=(aH.o.trans F.o).size;have U:V _:=ab;clear av aT;go_wp2_with (first|(at_builtin;refine wpList_append_lies _ rfl _ _ 30 rfl w.heap.size 47 bK (.slice none 0 0) 1 24 underlying30 hi bU bO bR rfl xab _ _ us rfl (z.alloc _) ⟨wr.heap.size,0,none⟩ 1 1 [hH G ap cap] rfl rfl ?c1 ?c2 xab ?c3 ?c4 ?c5 _ rfl ?_))
    case c1=>exact cell_one_new _ _ _
    case c2=>intro u aJ;simp at aJ;subst aJ;rfl
    case c3=>unfold maxLen;omega
    case c4=>omega
    case c5=>simp;omega
    intro g9 cap9 bo bB bw b7 _
    have R1:V (AR bo w.heap.size (hH g9 (k+1) cap9) (k+1) (inN bd ins)):=
     AR.step (W:=wr) (Vs:=inN bd ins) z (pl X.o F.o) (x:=uK bd q ap) ⟨_,_,_,_,rfl,aA,U.o.fs,am.o⟩ (λ_ p aK c=>by
      cases aK
      have:=(jV ak.o (k:=G) c).2
      omega) bB bw (by rcases b7 with h|h;exact .inl h;exact .inr (by rw[h];simp)) (λj hj=>rfl) o.o
    have R2:V _:=jq (base:=w.heap.size) bw (λi hi=>(jV z hi).1) ((aH.o.trans F.o).trans (ez 0 0 wr _)) yad;clear bB bw b7 z F X ak aH N aA ab U;go_wp2;go_roundw
    case rel=>exact⟨k+1,q+ap,by omega,by omega,by go_num,by go_num,al.o.symm,R1,R2⟩
    case measure=>simp[intOf];omega
  obtain rfl:k=n:=xaa;obtain⟨af,cap,y,rfl,(aa:V _),(R3:V _)⟩:=a7.o.ss;clear a7;go_wp2;go_ret;exact⟨af,cap,y,rfl,aa.o,R3.o,aH.o⟩
end
section
theorem W0n(s){r}(aj:0<r)(h:r<=9218868437227405312):(FloatKind.f64.format.order (W s r) 0==some .eq)=false:=by
 rw[show FloatKind.f64.format.order (W s r) 0=_ from qd aj h];cases s<;>rfl
theorem Ob(x y w)(au:x<18446744073709551616)(bV:y<18446744073709551616):
  Calls prog 49 #[.float .f64 x,.float .f64 y] w λe J=>e=.returned (.bool ((fb x:Int)==(fb y:Int)))/\J=w:=by
 obtain⟨s,r,ay,rfl⟩:=jD x au;obtain⟨t,q,aq,rfl⟩:=jD y bV;clear au bV;by_cases B:r<=9218868437227405312
 ·have Y:=qe (s:=s) B;by_cases R:q<=9218868437227405312
  ·have U:=qe (s:=t) R;rw[wi B,wi R,ON ay aq];by_cases bp:r=0/\q=0
   ·obtain⟨rfl,rfl⟩:=bp;have a1:FloatKind.f64.format.order (W s 0) 0=some .eq:=lu;have a2:FloatKind.f64.format.order (W t 0) 0=some .eq:=lu;have N:=λw=>run_float_arith (P:=prog) w .quo 49 .f64 4607182418800017408 (W s 0) (W s 9218868437227405312) px;have aA:=λw=>run_float_arith (P:=prog) w .quo 49 .f64 4607182418800017408 (W t 0) (W t 9218868437227405312) px;have c1:FloatKind.f64.format.order (W s 9218868437227405312) 0=some (if s then .lt else .gt):=qd xaa xaa;have c2:FloatKind.f64.format.order (W t 9218868437227405312) 0=some (if t then .lt else .gt):=qd xaa xaa;cases s<;>cases t
    all_goals
     go_enter func49,ntmps49
     go_wp2
     go_ret
     exact⟨rfl,rfl⟩
   have b2:(FloatKind.f64.format.order (W s r) (W t q)==some .eq)=_:=Aw (s:=s) (t:=t) B R
   rw[show decide (r=q/\(s=t\/r=0))=decide (r=q/\s=t) by
    rw[Bool.eq_iff_iff];simp only[decide_eq_true_eq];constructor
    ·rintro⟨a,b|b⟩
     ·exact⟨a,b⟩
     exact absurd ⟨b,by omega⟩ bp
    rintro⟨a,b⟩;exact⟨a,.inl b⟩]at b2
   generalize decide (r=q/\s=t)=D at b2⊢;by_cases cK:r=0
   ·have f:0<q:=xaa;subst cK;have a1:FloatKind.f64.format.order (W s 0) 0=some .eq:=lu;have a2:=W0n t f R;exact xkg
   have a1:=W0n s (by omega:0<r) B;exact xkg
  have U:=su (s:=t) (by omega:9218868437227405312<q) aq;rw[wi B,qX xaa aq,show(((9221120237041090560:Nat)):Int)=9221120237041090560 from rfl,(yr B).1];exact xfe
 have Y:=su (s:=s) (by omega:9218868437227405312<r) ay;by_cases R:q<=9218868437227405312
 ·have U:=qe (s:=t) R;rw[wi R,qX xaa ay,show(((9221120237041090560:Nat)):Int)=9221120237041090560 from rfl,(yr R).2];exact xfe
 have U:=su (s:=t) (by omega:9218868437227405312<q) aq;rw[qX xaa ay,qX xaa aq,show(((9221120237041090560:Nat):Int)==((9221120237041090560:Nat):Int))=true from beq_self_eq_true _];exact xfe
end
section
attribute [local go_sem] eG eE eD
theorem ED(w a b n c d xs)(am:IS w 0 w.heap.size a n xs)(fb:IS w 0 w.heap.size b n xs)(hn:n<=1000000):
  Calls prog 9 #[.slice a n c,.slice b n d] w λe J=>e=.returned (.bool true)/\Kept 0 0 w J:=by
 have bf:V _:=am;have aI:V _:=fb;clear am fb;go_enter func9,ntmps9;go_wp2_with fail;go_loopw [5] (λi W=>∃k:Nat,k<=n/\i=hI k/\V (Kept 0 0 w W)) (λi _=>n-(intOf i).toNat)
 case atStart=>exact⟨0,Nat.zero_le _,rfl,Kept.refl _ _ _⟩
 case round=>
  obtain⟨k,O,rfl,aH⟩:=hrel;by_cases aF:k<n
  ·obtain⟨g,off,m,rfl,em,_,_,ca⟩:=(IS.keep bf.o aH.o yaa).at_idx (o:=k) xaa xaa;obtain⟨aG,H,f,rfl,h,_,_,b5⟩:=(IS.keep aI.o aH.o yaa).at_idx (o:=k) xaa xaa;obtain rfl:k=m:=xaa;obtain rfl:k=f:=xaa;generalize xs.getD (k:Int).toNat 0=x at ca b5;clear em h;go_wp2_with fail;go_region
   all_goals
    go_wp2
    go_roundw
    case rel=>exact⟨k+1,by omega,by go_num,Kept.drew aH.o⟩
    case measure=>simp[intOf];omega
  exact xid
theorem EE(w a b n c d xs bd)(am:FS w 0 w.heap.size a n xs)(av:FS w 0 w.heap.size b n bd)(ad:fU xs bd)(hn:n<=1000000):
  Calls prog 27 #[.slice a n c,.slice b n d] w λe J=>e=.returned (.bool true)/\Kept 0 0 w J:=by
 have bf:V _:=am;have aI:V _:=av;have aw:V _:=ad;clear am av ad;go_enter func27,ntmps27;go_wp2_with fail;go_loopw [5] (λi W=>∃k:Nat,k<=n/\i=hI k/\V (Kept 0 0 w W)) (λi _=>n-(intOf i).toNat)
 case atStart=>exact⟨0,Nat.zero_le _,rfl,Kept.refl _ _ _⟩
 case round=>
  obtain⟨k,O,rfl,aH⟩:=hrel;by_cases aF:k<n
  ·rcases (FS.keep0 bf.o aH.o).at_ with z|⟨g,off,rfl,_,_,_,a8⟩
   ·omega
   rcases (FS.keep0 aI.o aH.o).at_ with z|⟨aG,H,rfl,_,_,_,h⟩
   ·omega
   have ca:=a8 k aF;have b5:=h k aF
   have aP:V (∀W,Calls prog 49 #[.float .f64 (xs.getD k 0),.float .f64 (bd.getD k 0)] W λe J=>e=.returned (.bool true)/\J=W):=λW=>by
    have:=Ob (xs.getD k 0) (bd.getD k 0) W (fx bf.o.lt k) (fx aI.o.lt k)
    rw[gO aw.o k,beq_self_eq_true]at this
    exact this
   generalize xs.getD k 0=x at ca aP;generalize bd.getD k 0=y at b5 aP;clear a8 h;go_wp2_with fail;go_region_with (go_at_call 49;refine yai (aP.o _) ?_;rintro e bA ⟨rfl,rfl⟩)
   all_goals
    go_wp2
    go_roundw
    case rel=>exact⟨k+1,by omega,by go_num,Kept.drew aH.o⟩
    case measure=>simp[intOf];omega
  exact xid
theorem Bu(w a b n c d xss r)(am:SS w a n xss)(av:SS w b n r)(ad:∀k,k<n->fU (xss.getD k []) (r.getD k [])/\(xss.getD k []).length<=1000000)(hn:n<=1000000):
  Calls prog 11 #[.slice a n c,.slice b n d] w λe J=>e=.returned (.bool true)/\Kept 0 0 w J:=by
 have bf:V _:=am;have aI:V _:=av;have aw:V _:=ad;clear am av ad;go_enter func11,ntmps11;go_wp2_with fail;go_loopw [5] (λi W=>∃k:Nat,k<=n/\i=hI k/\V (Kept 0 0 w W)) (λi _=>n-(intOf i).toNat)
 case atStart=>exact⟨0,Nat.zero_le _,rfl,Kept.refl _ _ _⟩
 case round=>
  obtain⟨k,O,rfl,aH⟩:=hrel;by_cases aF:k<n
  ·rcases (SS.keep bf.o aH.o).at_ with z|⟨g,off,rfl,_,a8⟩
   ·omega
   rcases (SS.keep aI.o aH.o).at_ with z|⟨aG,H,rfl,_,h⟩
   ·omega
   obtain⟨p,q,ca,_,am⟩:=a8 k aF;obtain⟨f,ak,b5,_,av⟩:=h k aF;obtain⟨ad,ah⟩:=aw.o k aF;rw[<-jc ad]at b5 av;have aP:V (∀W,Kept 0 0 wr W->Calls prog 27 #[.slice p (xss.getD k []).length q,.slice f (xss.getD k []).length ak] W λe J=>e=.returned (.bool true)/\Kept 0 0 W J):=λW Q=>EE W p f _ q ak _ _ (FS.keep0 am Q) (FS.keep0 av Q) ad ah;generalize (xss.getD k []).length=m at ca b5 aP;clear a8 h am av ad ah;go_wp2_with fail;go_region_with (go_at_call 27;refine yai (aP.o _ (eF wr)) ?_;rintro e bA ⟨rfl,bc⟩;replace aH:V _:=aH.o.trans ((eF wr).trans bc);clear bc)
   all_goals
    go_wp2
    go_roundw
    case rel=>exact⟨k+1,by omega,by go_num,by first|exact aH|exact Kept.drew aH.o⟩
    case measure=>simp[intOf];omega
  exact xid
theorem dL.qgv(h:Zp:=by
 clear H cd;go_wp2_with fail;go_region_held3 (λW:World=>W.cell? ⟨w.heap.size,0,none⟩=some (.slice N Y d1)/\W.cell? ⟨w.heap.size,1,none⟩=some (hH bu us.length cap)/\W.cell? ⟨w.heap.size,2,none⟩=some (.slice ab Z d3)/\W.cell? ⟨ar,s,none⟩=some (hI mm)) (first|go_keep|(exact⟨(cV.o _ _ _ _).trans s0,(cV.o _ _ _ _).trans ax,(cV.o _ _ _ _).trans aN,cJ.o _ _ _⟩)) (fail)
 all_goals
  go_wp2_with fail
  refine yay (v:=.tuple #[eZ N Y d1 (some ⟨bu,0,none⟩) us.length cap ab Z d3,hI mm]) (by simp[results,results141,go_sem,bh,aU,aY]) rfl ⟨?_,R1.o.2⟩
  rw[C.o]
  exact⟨_,_,_,_,_,_,rfl,R1.o.1.1,R1.o.1.2.1,R1.o.1.2.2,eg.o⟩):Zp:=h
open dL in
theorem Oc(w bc bd ag Y c1 U c2 Z c3)(s x t:Nat)(ins vs outs)(f:GS w bc Y (some ⟨ag,0,none⟩) U bd Z ins vs outs)(cW:VA w ag U vs)(bP:Y<=1000000)(b8:U<=2000)(cx:Z<=1000000)(P:(List.range U).all (okV ins vs)=true)(cD:fe vs<=50000)(ad:s<U)(au:x<U):
  Calls prog 141 #[eZ bc Y c1 (some ⟨ag,0,none⟩) U c2 bd Z c3,hI s,hI x,hI t] w λe J=>uY w J Y Z ins outs (j9 vs s x t) e/\Kept 0 0 w J:=by
 have cI:Kept 0 0 w ((w.alloc (eY bc Y c1 (some ⟨ag,0,none⟩) U c2 bd Z c3)).alloc fp):=(ez 0 0 w _).trans (ez 0 0 _ _);have aI:V _:=(fE w (.slice bc Y c1) (hH ag U c2) (.slice bd Z c3)).keep (ez 0 0 _ fp);have cA:V (∀o,((w.alloc (eY bc Y c1 (some ⟨ag,0,none⟩) U c2 bd Z c3)).alloc fp).frozen? ⟨w.heap.size,o,none⟩=false):=λo=>by simp
 have bF:=fY (w.alloc (eY bc Y c1 (some ⟨ag,0,none⟩) U c2 bd Z c3));rw[show(w.alloc _).heap.size=w.heap.size+1 by simp]at bF;have HR:V _:=bF;have bv:V _:=xS _ _ _ _ _ c1 _ c2 _ c3 _ _ _ (f.keep cI) bP xaa cx;have al:V _:=f.v.len;have cK:V _:=P;have cw:V _:=cD;clear bF cI f P cD;go_enter func141,ntmps141;go_wp2_with fail;refine yai bv.o ?_;rintro e aB ⟨N,d1,a2,d2,ab,d3,rfl,b1,bS,b5,⟨aO,aR,b2⟩,aM⟩;have aT:V _:=LJ.start al.o aI.o cA.o HR.o aM b1 bS b5 aO aR b2;obtain⟨_,bk,a8,p2⟩:=aI.o.keep aM;have bG:=(aM.frozen aI.o.sz xaa).trans (cA.o 0);have f1:=(aM.frozen aI.o.sz xaa).trans (cA.o 1);have f2:=(aM.frozen aI.o.sz xaa).trans (cA.o 2);obtain⟨bh,aU,aY⟩:=fj _ _ _ _ _ bk a8 p2 (.slice N Y d1) (.slice a2 U d2) (.slice ab Z d3);obtain⟨b0,gy,a5,cu,aw,_,a7⟩:=ng bS xaa al.o;injection a5 with eB eC e0;subst eB;have aL:(fB _ w.heap.size (.slice N Y d1) (hH b0 U d2) (.slice ab Z d3)).cell? _=some _:=(mb _ _ _ _ _ _ _ (by simp at cu;omega)).trans (a7.at_ s ad).c1;clear b1 bS b5 aO aR b2 bv aI cA HR a7 eC e0 aw aM;go_upto_region 2 with fail;clear bk a8 p2 bG f1 f2;unfold fB at aT aL;generalize ((aB.setCell _ _).setCell ⟨_,1,_⟩ _).setCell _ _=dd at aT aL bh aU aY⊢;have az:=pJ U dd xaa;have cQ:V _:=aT.o _ (IR.made _ _) (ez 0 0 _ _);generalize bf:(vs.getD s _).len=Q at aL;have el:V _:=bf;generalize c7:((w.alloc (eY bc _ _ _ _ _ _ _ _)).alloc _).heap.size=base at cQ;clear bf c7 aT cu;generalize dd.alloc _=af at az cQ;have b4:(0:Int)<=s:=xaa;have bi:(s:Int)<U:=xaa;go_wp2_with fail;clear az aL bh aU aY;generalize dd.heap.size=ar at cQ⊢;go_loopw [12] (λv W=>∃k:Nat,k<=U/\v=hI k/\V (LJ w W ar N Y d1 ab Z d3 ins outs vs (lJ k U) base (hH b0 U d2).ownBlock (some ⟨b0,0,none⟩) d2)) (λv _=>U-(intOf v).toNat)
 case atStart=>exact⟨0,Nat.zero_le _,rfl,by unfold lJ;exact cQ⟩
 case round=>
  obtain⟨k,O,rfl,ak⟩:=hrel;clear cQ;by_cases aF:k<U
  ·have c1:=ak.o.m.cell k (by rw[uV k _ O];exact aF);have c2:=ak.o.m.free k
   have R1:V (LJ w (wr.setCell ⟨ar,k,none⟩ (hI (-1))) ar N Y d1 ab Z d3 ins outs vs (lJ (k+1) U) base (hH b0 U d2).ownBlock (some ⟨b0,0,none⟩) d2):=by
    have:=ak.o.set k (-1);rw[uX aF]at this;exact this
   clear ak;generalize (lJ k _).getD k 0=z at c1;exact xiz
  obtain rfl:k=U:=xaa;have c8:=ak.o;rw[uW]at c8;have gr:=c8.m.cell x yaf;have e1:=c8.m.free x
  have er:V (∃aa a2 cap,LJ w _ _ _ _ _ _ _ _ _ _ (jst _ x t 0).1 (jst _ x t 0).2 _ aa a2 cap):=⟨_,_,_,by
   have:=c8.set x (t:Int)
   unfold jst
   rw[al.o]
   exact this⟩
  clear ak c8;generalize (List.replicate k (-1:Int)).getD x 0=z at gr;have ce:(0:Int)<=x:=xaa;have cF:(x:Int)<k:=xaa;go_wp2_with fail;clear gr e1;go_loopw [13] (λv W=>∃j:Nat,j<=s-x/\v=hI (x+1+j:Nat)/\V (∃aa a2 cap,LJ w W ar N Y d1 ab Z d3 ins outs (jst vs x t j).1 (jst vs x t j).2 base aa a2 cap)) (λv _=>s+1-(intOf v).toNat)
  case atStart=>exact⟨0,Nat.zero_le _,by simp,er⟩
  case round=>
   obtain⟨j,hj,rfl,ak⟩:=hrel;clear er;obtain⟨aa,a2,cap,ak⟩:=ak.o
   have fG:vs.length<=(jst vs x t j).1.length:=by
    obtain⟨r,h⟩:=wV vs x t j;rw[h,yak];omega
   obtain⟨bu,rfl,rfl,b7,a7⟩:=ak.read (hR al.o);by_cases aF:j<s-x
   ·have cr:x+1+j<k:=xaa;have bg:=a7 (x+1+j) (hR al.o);rw[BP _ x t j (hR al.o)]at bg;have di:=List.all_eq_true.1 cK.o _ (List.mem_range.2 cr);have c9:=AL di;have a9:V _:=my di;have c6:V _:=λh=>Fq _ x t j (hR al.o) (AK h (xh vs x t j));have dv:V _:=xh vs x t j;have G:V (jst _ x t (j+1)=((jst _ x t j).1++(jmv vs _ _).1,(jst _ x t j).2.set (x+1+j) _)):=rfl;have aV:V (jmv vs (x+1+j) (jst vs x t j)=mvM _ _ _ _ _ _):=rfl;have ah:∀q,q<vs.length->_:=λq aq=>iu (List.all_eq_true.1 cK.o q (List.mem_range.2 (hR al.o)));obtain⟨aZ,_,_⟩:=tv _ x t ah (mR _ (λq aq=>hR (ah q aq))) cw.o j (hR al.o);have cS:V ((jst vs x t j).1.length<=800000/\k<=(jst vs x t j).1.length/\(jst _ x t j).2.length=k):=⟨hR al.o,hR al.o,by rw[wU];exact al.o⟩
    have bE:V _:=ak.keep (ez 0 0 _ (.cells #[hI (-1),hI (-1),hI (-1)] 3));have cT:V _:=ak.oth yad;have R:V (IR _ _ [ovs (vs.getD (x+1+j) hM) (jst vs x t j).2 0 0,ovs (vs.getD (x+1+j) hM) (jst vs x t j).2 0 1,ovs (vs.getD (x+1+j) hM) (jst vs x t j).2 0 2]):=ir3 wr (-1) (-1) (-1);have cB:(x+1+j:Nat)<=(s:Int):=xaa;have gP:x+1+j<=s:=xaa;clear a7 ak fG ah aZ di bg b7;generalize ej:vs.getD _ _=v at c9 a9 c6 aV R;have cz:V _:=ej;clear ej;generalize ed:(jst _ x t j).2=aP at c6 dv G aV cS bE R;generalize ef:(jst _ x t j).1=us at G aV cS bE;have cG:V ((jst _ x t j).1=us/\(jst _ x t j).2=aP):=⟨ef,ed⟩
    clear ed ef;generalize hi:x+1+j=i at a9 cz c6 G aV cB cr gP;have bX:V _:=hi;clear hi;go_wp2_with fail;generalize wr.alloc _=ff at bE R⊢;generalize wr.heap.size=F at R cT⊢
    have eS:us.getD i hM=v:=by
     rw[<-cG.o.1,<-bX.o,BP _ x t j (hS bX.o al.o),bX.o];exact cz.o
    have ep:V _:=eS;have eu:i<us.length:=hR cS.o
    have cO:=gK v.op;clear eS;go_loopw [15,16] (λsv cn W=>∃q:Nat,q<=cnt v.op/\sv=.bool (sh v aP q)/\cn=hI q/\V (IR W F [ovs v aP q 0,ovs v aP q 1,ovs v aP q 2])/\V (LJ w W ar N Y d1 ab Z d3 ins outs us aP base (some bu) (some ⟨bu,0,none⟩) cap)) (λ_ cn _=>3-(intOf cn).toNat)
    case atStart=>exact⟨0,Nat.zero_le _,rfl,rfl,R,bE⟩
    case round=>
     obtain⟨q,aq,rfl,rfl,bB,bO⟩:=hrel;clear bE R;obtain⟨bY,bl,_,b7,a7⟩:=bO.o.read xaa;cases bl;have bg:=a7 i eu;rw[ep.o]at bg;obtain⟨bh,aU,aY,bW,b9,cj⟩:=bg;have ax:=bO.o.g.c1;have bK:(0:Int)<=i:=xaa;have cq:(i:Int)<us.length:=xaa;have HO:V _:=fd _ wr c9.1 c9.2;rw[OU c9.1 c9.2]at HO;clear a7 b7;by_cases co:q<cnt v.op
     ·obtain⟨am,av⟩:=a9.o q co;obtain⟨B,cl⟩:=Int.eq_ofNat_of_zero_le am;have ct:V _:=nf wr v q xaa;rw[cl]at ct;have e9:B<k:=xaa
      have bD:V (sh v aP (q+1)=(sh v aP q||decide (0<=aP.getD B 0))):=by
       have:=C5 v aP q;rw[cl,Int.toNat_natCast]at this;exact this
      have d0:V (([ovs v aP q 0,ovs v aP q 1,ovs v aP q 2]:List _).set q (aP.getD B 0)=[ovs v aP (q+1) 0,ovs v aP (q+1) 1,ovs v aP (q+1) 2]):=by
       have:=Fr v aP q xaa;rw[cl,Int.toNat_natCast]at this;exact this
      have tq:q<(cnt v.op:Int):=xaa;clear am av cl;go_wp2_with fail;refine yai HO.o ?_;rintro e J ⟨rfl,rfl⟩;clear HO;go_wp2_with fail;refine yai ct.o ?_;rintro e bm ⟨rfl,bZ⟩;have bz:=bO.o.keep bZ;have cg:=IR.keep bB.o bZ yaa;have cm:=bz.m.cell B (hR cS.o);have ch:=cg.cell q yaf;have ec:=cg.free q
      have R1:V (IR (bm.setCell ⟨F,q,none⟩ (hI (aP.getD B 0))) F [ovs v aP (q+1) 0,ovs v aP (q+1) 1,ovs v aP (q+1) 2]):=by
       have:=cg.set q (aP.getD B 0);rw[d0.o]at this;exact this
      have R2:V _:=bz.other cT.o q (hI (aP.getD B 0));clear bz cg bO bB ct bZ bh aU aY bW b9 cj ax d0;generalize aP.getD _ 0=y at cm R1 R2 bD;generalize ([ovs v _ q 0,ovs v _ q 1,ovs v _ q 2]:List _).getD q 0=z at ch;have bG:(0:Int)<=B:=xaa;have f1:B<(k:Int):=xaa;have ba:(0:Int)<=q:=xaa;have b2:(q:Int)<3:=xaa;cases bV:sh v aP q
      ·exact xhv
      exact xhv
     obtain rfl:q=cnt v.op:=xaa;have tq:¬((cnt v.op:Int)<(cnt v.op:Int)):=xaa;cases bV:sh v aP (cnt v.op)
     ·have R1:V (∃aa a2 cap,LJ w _ _ _ _ _ _ _ _ _ _ (jst _ x t _).1 (jst _ x t _).2 _ aa a2 cap):=⟨_,_,_,by
       rw[c6.o bV,cG.o.1,cG.o.2]
       exact bO.o⟩
      go_wp2_with fail;refine yai HO.o ?_;rintro e J ⟨rfl,rfl⟩;clear HO;exact xio
     have s0:=bO.o.g.c0;have aN:=bO.o.g.c2;have c0:=bB.o.cell 0 xac;have c1:=bB.o.cell 1 xac;have c2:=bB.o.cell 2 xac;rw[show([ovs v _ _ 0,ovs v _ _ 1,ovs v _ _ 2]:List _).getD 0 0=ovs v _ _ 0 from rfl]at c0;rw[show([ovs v _ _ 0,ovs v _ _ 1,ovs v _ _ 2]:List _).getD 1 0=ovs v _ _ 1 from rfl]at c1;rw[show([ovs v _ _ 0,ovs v _ _ 1,ovs v _ _ 2]:List _).getD 2 0=ovs v _ _ 2 from rfl]at c2;have ee:=C6 bV;have bY:∀n,-1<=ovs v _ (cnt v.op) n:=λn=>Fo dv.o;have bg:At _ _ _ v:=⟨bh,aU,aY,bW,b9,cj⟩
     have ds:V (∀aD,Kept 0 0 wr aD->Calls prog 146 #[eZ N Y d1 (some ⟨bu,0,none⟩) us.length cap ab Z d3,hI i,hI (ovs v aP (cnt v.op) 0),hI (ovs v aP (cnt v.op) 1),hI (ovs v aP (cnt v.op) 2)] aD λe bA=>∃(p:List Vl) (r:Int) (bU:Option Addr) (bN:Nat) (cp:Option Nat),e=.returned (.tuple #[eZ N Y d1 bU p.length bN ab Z d3,hI r])/\(∀I o,I<aD.heap.size->I≠bu->bA.cell? ⟨I,o,none⟩=aD.cell? ⟨I,o,none⟩)/\(∀I o,I<aD.heap.size->I≠bu->bA.frozen? ⟨I,o,none⟩=aD.frozen? ⟨I,o,none⟩)/\aD.heap.size<=bA.heap.size/\V (p=us++(jmv vs i (jst vs x t j)).1/\r=(jmv vs i (jst vs x t j)).2)/\
       V (∀(l h':Nat) (ck:World),Kept l h' bA ck->wr.heap.size<=l->(h'<=aD.heap.size\/bA.heap.size<=l)->(bu<l\/h'<=bu)->LJ w (fB ck w.heap.size (.slice N Y d1) (.slice bU p.length bN) (.slice ab Z d3)) ar N Y d1 ab Z d3 ins outs p aP base cp bU bN)):=λaD ap=>by
      refine(MU aD N ab Y d1 cap Z d3 base bu i us v _ _ _ (bO.o.keep ap).g.own (bO.o.keep ap).g.sz cS.o.1 eu (bg.keep (eI bO.o.g.own (k:=bu) rfl).2 ap yaa) (bY 0) (bY 1) (bY 2) ee (λai=>by unfold ovs;rw[hJ xaa]) (λai=>by unfold ovs;rw[hJ xaa])).mono ?_
      rintro e bA ⟨bU,bN,cp,rfl,e6,e7,eb⟩
      rw[<-aV.o]at e6 e7⊢
      have hn:∀I,I≠bu->¬((λ_=>False) I\/some bu=some I):=λI aS=>by rintro (c|c);exact c;cases c;exact aS rfl
      refine⟨_,_,_,_,cp,rfl,λI o aS aW=>eb.chg.cell aS (hn I aW),λI o aS aW=>eb.chg.frozen aS (hn I aW),eb.chg.size,⟨rfl,rfl⟩,λl h' ck b6 ah b3 b7=>?_⟩
      refine bO.o.step ap e6 e7 eb b6 ah (λg aW=>?_)
      rcases eb.row with c|⟨r,c,ay⟩
      ·rw[c]at aW;cases aW;exact b7
      ·rw[c]at aW;cases aW
       have:=(eI e6 (e7.trans c)).2
       omega
     have m:V (w.heap.size<wr.heap.size/\F<wr.heap.size/\w.heap.size≠bu/\F≠bu/\bu<wr.heap.size):=⟨bO.o.g.lt,bB.o.lt,λc=>bO.o.g.ne (by rw[c]),λc=>cT.o.r (by rw[c]),(eI bO.o.g.own rfl).2⟩
     have eA:=bO.o.g.free;clear ee bY bg aU aY bW b9 cj aV;generalize ovs v _ _ 0=ao at c0 ds bB;generalize ovs v _ _ 1=S at c1 ds bB;generalize ovs v _ _ 2=aH at c2 ds bB;generalize e2:jmv _ i _=M at ds G;clear e2;obtain⟨ev,et⟩:=M;go_wp2_with fail;refine yai HO.o ?_;rintro e J ⟨rfl,rfl⟩;clear HO bh;go_upto_region 20 with fail;go_cut [17,18] (λeT g2 bo=>∃(X:Nat) (p:List Vl) (r:Int) (bU:Option Addr) (bN:Nat) (cp:Option Nat),eT=hG X/\g2=hI r/\V (p=us++ev/\r=et)/\V (RB bo X (.slice N Y d1) (.slice bU p.length bN) (.slice ab Z d3)/\((∃u,bo.cell? ⟨w.heap.size,0,none⟩=some u)/\(∃u,bo.cell? ⟨w.heap.size,1,none⟩=some u)/\(∃u,bo.cell? ⟨w.heap.size,2,none⟩=some u))/\(∀o,bo.frozen? ⟨w.heap.size,o,none⟩=false))/\V (LJ w (fB bo w.heap.size (.slice N Y d1) (.slice bU p.length bN) (.slice ab Z d3)) ar N Y d1 ab Z d3 ins outs p aP base cp bU bN))
     case first=>
      have ek:w.heap.size≠J.heap.size:=hR m.o
      have gv:F≠J.heap.size:=hR m.o
      have bb:V (∀I o,I<J.heap.size->(J.alloc _).drew.cell? ⟨I,o,none⟩=J.cell? _):=λI o aS=>(ez 0 0 _ fp).cell aS xaa
      go_region_held3 (λW:World=>W.cell? ⟨w.heap.size,0,none⟩=some (.slice N Y d1)/\W.cell? ⟨w.heap.size,1,none⟩=some (hH bu us.length cap)/\W.cell? ⟨w.heap.size,2,none⟩=some (.slice ab Z d3)/\W.cell? ⟨F,0,none⟩=some (hI ao)/\W.cell? ⟨F,1,none⟩=some (hI S)/\W.cell? ⟨F,2,none⟩=some (hI aH)) (first|go_keep|(simp only[mb _ _ _ _ _ _ _ ek,mb _ _ _ _ _ _ _ gv];exact⟨bw,a1,a2,a3,a4,ci⟩)) (first
       |(go_at_call 146;refine yai (ds.o _ ((ez 0 0 _ _).trans (eF _))) ?_;rintro e bA ⟨p,r,bU,bN,cp,rfl,bx,cC,cM,cH,ae⟩;have bw:=(bx _ 0 (by have:=m.o;simp;omega) m.o.2.2.1).trans ((bb.o _ 0 m.o.1).trans s0);have a1:=(bx _ 1 (by have:=m.o;simp;omega) m.o.2.2.1).trans ((bb.o _ 1 m.o.1).trans ax);have a2:=(bx _ 2 (by have:=m.o;simp;omega) m.o.2.2.1).trans ((bb.o _ 2 m.o.1).trans aN);have a3:=(bx F 0 (by have:=m.o;simp;omega) m.o.2.2.2.1).trans ((bb.o F 0 m.o.2.1).trans c0);have a4:=(bx F 1 (by have:=m.o;simp;omega) m.o.2.2.2.1).trans ((bb.o F 1 m.o.2.1).trans c1);have ci:=(bx F 2 (by have:=m.o;simp;omega) m.o.2.2.2.1).trans ((bb.o F 2 m.o.2.1).trans c2);have cP:V _:=cC;have bM:=bx J.heap.size 0 xac (hR m.o);have aZ:=bx J.heap.size 1 xac (hR m.o);have be:=bx J.heap.size 2 xac (hR m.o);have ew:=cC J.heap.size 0 xac (hR m.o);have ex:=cC J.heap.size 1 xac (hR m.o);have ey:=cC J.heap.size 2 xac (hR m.o);have ei:V _:=cM;clear bx cC cM)
       |(go_at_call 146;refine yai (ds.o _ (eF _)) ?_;rintro e bA ⟨p,r,bU,bN,cp,rfl,bx,cC,cM,cH,ae⟩;have bw:=(bx _ 0 m.o.1 m.o.2.2.1).trans s0;have a1:=(bx _ 1 m.o.1 m.o.2.2.1).trans ax;have a2:=(bx _ 2 m.o.1 m.o.2.2.1).trans aN;have a3:=(bx F 0 m.o.2.1 m.o.2.2.2.1).trans c0;have a4:=(bx F 1 m.o.2.1 m.o.2.2.2.1).trans c1;have ci:=(bx F 2 m.o.2.1 m.o.2.2.2.1).trans c2;have cP:V _:=cC;have cj:w.heap.size≠bA.heap.size:=(by have:=m.o;have:J.heap.size<=bA.heap.size:=cM;omega);have cU:F≠bA.heap.size:=(by have:=m.o;have:J.heap.size<=bA.heap.size:=cM;omega);have ei:V _:=cM;clear bx cC cM))
      ·have ea:J.heap.size<=bA.heap.size:=ei.o;have bH:=ez 0 0 bA (.cells #[.slice N Y d1,.slice bU p.length bN,.slice ab Z d3] 26);have cN:w.heap.size<bA.heap.size:=by have:=m.o;omega
       have R2:V (RB (bA.alloc (.cells #[.slice N Y d1,.slice bU p.length bN,.slice ab Z d3] 26)) bA.heap.size (.slice N Y d1) (.slice bU p.length bN) (.slice ab Z d3)/\((∃u,(bA.alloc _).cell? _=some u)/\(∃u,(bA.alloc _).cell? _=some u)/\(∃u,(bA.alloc _).cell? _=some u))/\(∀o,(bA.alloc _).frozen? _=false)):=
        ⟨⟨by simp,by simp,by simp,by simp,by simp,by simp,by simp⟩,⟨⟨_,(bH.cell cN xaa).trans bw⟩,⟨_,(bH.cell cN xaa).trans a1⟩,⟨_,(bH.cell cN xaa).trans a2⟩⟩,λo=>(bH.frozen cN xaa).trans ((cP.o _ o m.o.1 m.o.2.2.1).trans (eA o))⟩
       have R3:V _:=ae.o _ bA.heap.size _ (ez _ _ _ (.cells #[.slice N Y d1,.slice bU p.length bN,.slice ab Z d3] 26)) ea yab (.inl (hR m.o));exact xky
      have ea:=yan (ez 0 0 _ _).size ei.o;have K:=ft bA J.heap.size (.slice N Y d1) (.slice bU p.length bN) (.slice ab Z d3);have cN:w.heap.size<bA.heap.size:=hR m.o
      have gx:J.heap.size<bA.heap.size:=yaj xac ei.o;have fL:bA.cell? _=some (.slice none 0 0):=bM.trans xac;have fM:bA.cell? _=some (.slice none 0 0):=aZ.trans xac;have fP:bA.cell? _=some (.slice none 0 0):=be.trans xac;obtain⟨bh,aU,aY⟩:=fj _ _ _ _ _ fL fM fP (.slice N Y d1) (.slice bU p.length bN) (.slice ab Z d3);have en:∀o,bA.frozen? _=false:=λo=>(cP.o J.heap.size o xac (hR m.o)).trans xac;have bR:∀o,_:=λo=>(cP.o _ o (by have:=m.o;simp;omega) m.o.2.2.1).trans (((ez 0 0 _ _).frozen m.o.1 xaa).trans (eA o))
      have R2:V (RB _ _ _ _ _/\((∃u,(((bA.setCell _ (.slice N Y d1)).setCell _ (.slice bU p.length bN)).setCell _ (.slice ab Z d3)).cell? _=some u)/\(∃u,(((bA.setCell _ (.slice N Y d1)).setCell _ (.slice bU p.length bN)).setCell _ (.slice ab Z d3)).cell? _=some u)/\(∃u,(((bA.setCell _ (.slice N Y d1)).setCell _ (.slice bU p.length bN)).setCell _ (.slice ab Z d3)).cell? _=some u))/\(∀o,(((bA.setCell ⟨J.heap.size,0,none⟩ (.slice N Y d1)).setCell ⟨J.heap.size,1,none⟩ (.slice bU p.length bN)).setCell ⟨J.heap.size,2,none⟩ (.slice ab Z d3)).frozen? ⟨w.heap.size,o,none⟩=false)):=
       ⟨⟨yaj gx K.size,bh,aU,aY,by simp[en 0],by simp[en 1],by simp[en 2]⟩,⟨⟨_,(mb _ _ _ _ _ _ _ ek).trans bw⟩,⟨_,(mb _ _ _ _ _ _ _ ek).trans a1⟩,⟨_,(mb _ _ _ _ _ _ _ ek).trans a2⟩⟩,λo=>by simp[bR o]⟩
      have R3:V _:=ae.o _ _ _ K yad (.inl xac) (.inl m.o.2.2.2.2);clear K fL fM fP en bR bh aU aY bM aZ be ew ex ey;exact xky
     case rest=>
      clear s0 ax aN c0 c1 c2 ds bO bB eA;obtain⟨X,p,r,bU,bN,cp,rfl,rfl,cH,bQ,ae⟩:=hcut;obtain⟨⟨_,bj,aQ,a6,bL,bI,bJ⟩,⟨⟨_,bk⟩,⟨_,a8⟩,⟨_,p2⟩⟩,bR⟩:=bQ.o;have gT:=bR 0;have g0:=bR 1;have g1:=bR 2;clear bR bQ;go_upto_region 22 with fail;clear bj aQ a6 bL bI bJ bk a8 p2 gT g0 g1;unfold fB at ae;generalize ((wc.setCell _ _).setCell ⟨_,1,_⟩ _).setCell _ _=cX at ae⊢;have cm:=ae.o.m.cell i (hR cS.o);have e5:=ae.o.m.free i
      have R1:V (∃aa a2 cap,LJ w (cX.setCell _ (.int _ r)) _ _ _ _ _ _ _ _ _ (jst _ x t _).1 (jst _ x t _).2 _ aa a2 cap):=⟨_,_,_,by
       have:=ae.o.set i r
       rw[G.o]
       rw[cH.o.2]at this⊢
       rw[cH.o.1]at this
       exact this⟩
      clear ae cH;generalize aP.getD i 0=z at cm;exact xio
   obtain rfl:j=s-x:=xaa;have bT:¬((x+1+(s-x):Nat)<=(s:Int)):=xaa;have cR:s<(jst vs x t (s-x)).2.length:=by rw[wU,al.o];exact ad
   have cs:=ak.m.cell s cR;have dg:=xh vs x t (s-x) s;have H:V (j9 _ s x t=if (jst _ x t _).2.getD s 0=-1 then ((jst _ x t _).1++[eL 1 _ 0 0 0],(((jst _ x t _).1.length:Nat):Int))else ((jst _ x t _).1,(jst vs x t _).2.getD s 0)):=rfl;rw[el.o]at H
   have cd:s<x->(jst _ x t (s-x)).2.getD s 0=-1:=λai=>by
    rw[show s-x=0 by omega]
    exact Fs _ x t s xaa (hU al.o ad)
   have ah:∀q,q<vs.length->_:=λq aq=>iu (List.all_eq_true.1 cK.o q (List.mem_range.2 (hR al.o)));obtain⟨aZ,_,_⟩:=tv _ x t ah (mR _ (λq aq=>hR (ah q aq))) cw.o (s-x) (hR al.o);have cc:(jst vs x t (s-x)).1.length<=800000:=hR al.o
   have HL:V _:=ak;clear a7 ak fG ah aZ cR aF b7;generalize (jst _ x t _).1=us at HL H cc;generalize (jst _ x t _).2=aP at HL H cs dg cd;generalize aP.getD s 0=mm at cs dg H cd;have s0:=HL.o.g.c0;have ax:=HL.o.g.c1;have aN:=HL.o.g.c2;obtain⟨_,bj,aQ,a6,bL,bI,bJ⟩:=HL.o.b;have fa:(0:Int)<=s:=xaa;have fc:(s:Int)<k:=xaa;by_cases a7:x<=s/\0<=mm
   ·have C:V (j9 vs s x t=(us,mm)):=by
     show _=_;rw[H.o,hJ xaa]
    have ao:((x:Int)<=s):=xaa;have S:=a7.2;obtain⟨bh,aU,aY⟩:=fj _ _ _ _ _ bj aQ a6 (.slice N Y d1) (hH bu us.length cap) (.slice ab Z d3);have gw:w.heap.size≠w.heap.size+1:=xaa;have fu:ar≠w.heap.size+1:=hS HL.o.hb HL.o.dM
    have hq:=Ne.symm fu;have cJ:V (∀X cy cb:Value,(((wr.setCell _ X).setCell _ cy).setCell _ cb).drew.cell? _=some _):=λX cy cb=>(mb _ _ _ _ X cy cb fu).trans cs;exact qgu
   have C:V (j9 vs s x t=(us++[eL 1 Q 0 0 0],(us.length:Int))):=by
    show _=_
    rw[H.o,hK (by
     by_cases ai:s<x
     ·exact cd ai
     ·omega)]
   have e3:(¬(x<=(s:Int)))\/((x:Int)<=s/\¬(0<=mm)):=xaa;clear H cd bj aQ a6 bL bI bJ a7 dg;rcases e3 with bp|⟨bp,dp⟩
   all_goals
    go_upto_region 25 with fail
    clear cs
    go_cut [] (λbo=>∃aG cap',V (LJ w bo ar N Y d1 ab Z d3 ins outs (us++[eL 1 Q 0 0 0]) aP base (some aG) (some ⟨aG,0,none⟩) cap'))
    case first=>
     go_region_with (first
      |(go_at_call 32;refine yai (LJ.call HL.o ((eF _).trans an) _ xaa) ?_;rintro e af ⟨aG,cap',rfl,⟨_,bn⟩,⟨_,aC⟩,⟨_,a0⟩,aj,aA⟩;have bq:=aj 0;have br:=aj 1;have bC:=aj 2;clear aj)
      |(go_at_call 51;refine yai (oV _ _) ?_;rintro e aB ⟨rfl,an⟩;have bk:=(LJ.keep HL.o ((eF _).trans an)).g.c0;have a8:=(LJ.keep HL.o ((eF _).trans an)).g.c1;have p2:=(LJ.keep HL.o ((eF _).trans an)).g.c2))
     all_goals (go_wp2_with fail;go_meet;exact⟨_,_,aA⟩)
    case rest=>
     obtain⟨aG,cap',aA⟩:=hcut
     have cf:(us++[eL 1 Q 0 0 0]).length=us.length+1:=by simp
     generalize aJ:us++[eL 1 _ 0 0 0]=p at aA C cf
     clear s0 ax aN aJ HL
     have s0:=aA.o.g.c0
     have ax:=aA.o.g.c1
     have aN:=aA.o.g.c2
     obtain⟨_,bj,aQ,a6,bL,bI,bJ⟩:=aA.o.b
     have aK:V _:=λW=>je W N (some ⟨aG,0,none⟩) ab Y d1 p.length cap' Z d3 xaa
     rw[show(p.length:Int)-1=(us.length:Nat) by omega]at aK
     clear cf
     go_wp2_with fail
     go_region_with (first
      |(go_at_call 35;refine yai (aK.o _) ?_;rintro e aX ⟨rfl,aM⟩;clear bj aQ a6 bL bI bJ;have ba:=(aA.o.keep ((eF _).trans aM)).g.c0;have aO:=(aA.o.keep ((eF _).trans aM)).g.c1;have aR:=(aA.o.keep ((eF _).trans aM)).g.c2;obtain⟨_,bj,aQ,a6,bL,bI,bJ⟩:=(aA.o.keep ((eF _).trans aM)).b))
     all_goals
      have eg:V _:=aA.o.a4
      have R1:V _:=aA.o.fin ((eF _).trans aM)
      obtain⟨bh,aU,aY⟩:=fj _ _ _ _ _ bj aQ a6 (.slice N Y d1) (hH aG p.length cap') (.slice ab Z d3)
      go_wp2_with fail
      refine yay (v:=.tuple #[eZ N Y d1 (some ⟨aG,0,none⟩) p.length cap' ab Z d3,hI us.length]) (by simp[results,results141,go_sem,bh,aU,aY]) rfl ⟨?_,R1.o.2⟩
      rw[C.o]
      exact⟨_,_,_,_,_,_,rfl,R1.o.1.1,R1.o.1.2.1,R1.o.1.2.2,eg.o⟩
