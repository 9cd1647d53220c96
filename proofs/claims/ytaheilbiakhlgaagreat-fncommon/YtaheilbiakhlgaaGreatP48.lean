import Derived.Test.YtaheilbiakhlgaaGreatP41
import Derived.Test.YtaheilbiakhlgaaGreatP36
import Derived.Test.YtaheilbiakhlgaaGreatP31
import Derived.Test.YtaheilbiakhlgaaGreatP35
namespace Go.Proofs.Z
variable{Zp:Prop}
open Tryz Go.RowKit Flt
set_option maxRecDepth 1000000
set_option maxHeartbeats 0
section
attribute[local go_sem] eF eE eD
variable{w J:World}{q j A n I k:Nat}{bc:List Nat}{vs:List Vl}{a:Option Addr}{xss:List (List Nat)}{ins xs:List Int}{v bI bL bM:Value}
def lM(xs:List Int)(i:Nat):Nat:=if xs.length=0 then 0 else (xs.getD (i%xs.length) 0).toNat
theorem Hv(h:YS w a n xs)(i):lM xs i<256:=by
 unfold lM;split
 ·omega
 rename_i ai;have aw:i%xs.length<xs.length:=Nat.mod_lt _ xaa;rw[yah,yal aw];have:=h.lt _ (List.getElem_mem aw);show(xs[i%xs.length]).toNat<256;omega
theorem Pw{cap}(h:YS w a n xs)(hn:n<=1048576)(i:Nat):
  Calls prog 24 #[.slice a n cap,hF i] w λe J=>e=.returned (hF (lM xs i:Int))/\J=w:=by
 have ah:=h.len;by_cases ai:n=0
 ·have HR:V ((lM xs i:Int)=0):=by show _=_;unfold lM;rw[hI xaa];rfl
  have az:(n:Int)<=0:=xaa;clear h ah ai;exact xjr
 have aw:i%n<n:=Nat.mod_lt _ xaa
 obtain⟨g,off,rfl,ak⟩:∃g off,a=some ⟨g,off,none⟩/\w.cell? ⟨g,off+i%n,none⟩=some (.int .u8 (xs.getD (i%n) 0)):=by
  rcases h.at_ with q|⟨g,off,e,h3,a6⟩
  ·exact absurd q ai
  exact⟨g,off,e,a6 _ aw⟩
 have hb:0<=xs.getD (i%n) 0/\xs.getD (i%n) 0<256:=by
  rw[yah,yal xaa];exact h.lt _ (List.getElem_mem _)
 have HR:V ((lM xs i:Int)=xs.getD (i%n) 0):=by show _=_;unfold lM;rw[hG xaa,ah];omega
 have f:(i:Int).tmod (n:Int)=((i%n:Nat):Int):=rfl;have l:(i:Int)%n=((i%n:Nat):Int):=by rw[Int.natCast_emod]
 obtain⟨ao,ay⟩:=hb;generalize xs.getD (i%n) 0=x at ak ao ay HR;generalize i%n=j at aw ak f l;clear h ah;exact xjr
theorem qR(outs:List Int)(z:List (List Nat))(h:j<outs.length):(outs.map λo=>z.getD o.toNat []).getD j []=z.getD (outs.getD j 0).toNat []:=by
 have e:outs.getD j 0=outs[j]:=by rw[yah,yal h];rfl
 rw[e,yah,List.getElem?_map,yal h];rfl
theorem cI.qco(h:Zp:=by
 clear ar h f s ax aM X;go_enter func11,ntmps11;go_wp2_with fail;generalize w.alloc _=aG at bu aH aL au HK ch⊢;refine yai bu.o ?_;rintro e ag ⟨rfl,an⟩;obtain⟨_,a7,aK,aP⟩:=G0.keep aH.o an;have bV:V _:=Dc _ _ _ _ b _ m c1 b2 _ _ (GS.keep aL.o an).i (SS.keep au.o an) xaa;exact qhm):Zp:=h
theorem cI.qfi(h:Zp:=by
 have bp:V _:=lS X (λk=>by
  rw[yah]
  cases ba:vs[k]? with
  |none=>decide
  |some v=>exact f.v.lt v (List.mem_of_getElem? ba))
 have B:V _:=qJ U _ aM
 have ae:V (m=Y):=by
  exact xin
 have ar:=ez 0 0 w (eZ a1 Y c1 Z ab c2 a3 aa c3);have bu:V _:=uA _ _ _ _ _ c1 _ c2 _ c3 _ _ _ (f.keep ar);rw[h]at bu;exact qcn):Zp:=h
theorem cI.qfx(h:Zp:=by
 have bu:V _:=AU _ (vs.getD k hK) _ _ ab m b2 k b _ _ (hP.o.keep cd) (SS.keep au.o (Kept.trans ar.o cd)) O (by
   rw[yah]
   cases ba:vs[k]? with
   |none=>decide
   |some v=>exact ad v (List.mem_of_getElem? ba)) (bp.o k) (λai=>by
   unfold okV at ok
   rw[hI ai]at ok
   simp only[Bool.and_eq_true]at ok
   have:=of_decide_eq_true ok.2.1
   rw[af]at this
   rw[ae.o]
   exact this) (λai=>by
   unfold okV at ok
   rw[hG ai]at ok
   simp only[Bool.and_eq_true]at ok
   exact ok.2.1)
 have a2:V (∀{J:World}{b:Option _}{m c:Nat},Kept 0 0 _ J->Cl _ (.slice b m c) _->_):=λq aI=>hP.o.step aB q aI;have cq:V _:=cd;clear aS bb bq bD ok ad bx cd;generalize vs.getD k _=v at bm bu a2 cq;obtain⟨bw,d1,d2,d3,d4,d5⟩:=bm;subst cc;go_wp2_with fail;refine yai bu.o ?_;rintro e bF ⟨bE,bo,c5,rfl,cG,bW⟩;have cb:=Kept.trans cq.o bW;have p:=hP.o.keep cb;obtain⟨bY,K,x,aR,_⟩:=p.at_ k aB;have aV:=p.free k;have R1:V _:=a2.o cb cG;have R2:V _:=nW _ _ (Kept.trans ar.o cb) _ k (.slice bE bo c5) cT.o;clear p cb bW cG bu a2 cq bw d1 d2 d3 d4 d5 hP ar;exact xer):Zp:=h
theorem cI.qhn(h:Zp:=by
 have aw:=Gh ab a8 xaa;have aQ:V _:=LV.made a8 ab (fw xss vs 0);have b7:=aJ.trans (ez 0 0 _ (.cells (madeCells #[.slice none 0 0] ab) 54));have av:=(G0.keep aH.o aJ).q1;obtain⟨_,a7,aK,aP⟩:=G0.keep aH.o b7;have bX:V _:=b7;have cT:V _:=aJ.size;clear d3 aJ b7 bV bN;generalize a8.alloc _=bj at aw aQ bX a7 aK aP;go_wp2_with fail;clear aw av a7 aK aP;go_loopw [27] (λi W=>∃k:Nat,k<=ab/\i=hF k/\V (LV W a8.heap.size ab k (fw xss vs k))/\V (Kept 0 0 aG W)) (λi _=>ab-(intOf i).toNat)
 case atStart=>exact⟨0,Nat.zero_le _,rfl,aQ,bX⟩
 case round=>
  obtain⟨k,O,rfl,hP,ar⟩:=hrel;clear aQ bX;by_cases aB:k<ab
  ·have bx:=GS.keep aL.o ar.o;rcases bx.v.at_ with bR|⟨aA,bK,cc,aS,bb,bq,bD⟩
   ·omega
   have bm:=bD k aB;have ad:=bx.v.lt;have ok:=List.all_eq_true.1 b1.o k (List.mem_range.2 aB);exact qfw
  obtain rfl:k=ab:=xaa;obtain⟨bF,az⟩:∃bF,bF=wr:=⟨_,rfl⟩
  subst az;obtain⟨z,(aX:V _),(r:V _)⟩:=hP.o.ss;have aP:=(G0.keep aH.o ar.o).q2;have aw:=Gh aa bF xaa;have al:=ez 0 0 bF (.cells (madeCells #[.slice none 0 0] aa) 54);have b9:=(G0.keep aH.o (Kept.trans ar.o al)).q2;have ao:V _:=SP.made bF aa id id (outs.map λo=>z.getD o.toNat []);have bf:V _:=al;have HK:V _:=Kept.trans HK.o ar.o;have F:V _:=ar.o.size;have bk:V _:=ar.o;clear hP al ar;generalize bF.alloc _=cg at aw ao bf b9;go_wp2_with fail;clear aw aP b9;go_loopw [47] (λi W=>∃k:Nat,k<=aa/\i=hF k/\V (∃aT ck,SP W bF.heap.size aa k aT ck (outs.map λo=>z.getD o.toNat []))/\V (Kept 0 0 bF W)) (λi _=>aa-(intOf i).toNat)
  case atStart=>exact⟨0,Nat.zero_le _,rfl,⟨_,_,ao.o⟩,bf⟩
  case round=>
   obtain⟨j,hj,rfl,hP,ar⟩:=hrel;clear ao bf;obtain⟨aT,ck,hP⟩:=hP.o;by_cases aB:j<aa
   ·rcases (GS.keep aL.o (Kept.trans bk.o ar.o)).o.at_ with bR|⟨aA,bK,cc,aS,bb,bq,bD⟩
    ·omega
    have c1:=bD j aB
    have g:=List.all_eq_true.1 HO.o (outs.getD j 0) (by
     rw[yah,yal xaa]
     exact List.getElem_mem _)
    have t:=of_decide_eq_true g
    have bS:(outs.map λo=>z.getD o.toNat []).getD j []=z.getD (outs.getD j 0).toNat []:=by
     exact qR _ _ xaa
    have co:V (∀{J:World}{G c:Nat},Kept 0 0 _ J->FO _ G _ _->wr.heap.size<=G->_<=c->_):=λq ax bl ak=>hP.step aB q ax bl ak;rw[bS]at co;obtain⟨o,ax⟩:∃o:Nat,outs.getD j 0=o:=⟨(outs.getD j 0).toNat,by omega⟩
    rw[ax,Int.toNat_natCast]at co;rw[ax]at c1 t;have H:o<k:=xaa;rcases (SS.keep aX.o ar.o).at_ with bR|⟨ca,bB,cp,aR,aV⟩
    ·omega
    cases cp;obtain⟨N,R,bG,aC,ay⟩:=aV o H;rw[Nat.zero_add]at bG
    have b8:1<=(z.getD o []).length/\(z.getD o []).length<=1000:=by
     have aq:=jY (r.o o H);exact xjd
    rcases ay.at_ with bR|⟨cr,aD,am,bL,bM,cj,cx⟩
    ·omega
    have bg:V _:=Pe _ _ _ _ R _ b8.1 xaa cj rfl ay.lt cx;have fl:V (∀J,Kept 0 0 _ J->J.frozen? _=false/\∃u,J.cell? _=some u):=λJ q=>⟨(hP.keep q).free j,(hP.keep q).rest j aB⟩
    subst cc am;clear aS bb bq bD aR aV aC ay bL bM cj cx bS g t hP ax;generalize z.getD o _=bc at bG bg co b8;generalize bc.length=l at bG bg co b8;go_wp2_with fail;refine yai bg.o ?_;rintro e cf ⟨G,cap,rfl,bP,ap,ce,bT⟩;have R1:V _:=co.o bT ap ce bP;have R2:V _:=nW _ _ (Kept.trans ar.o bT) _ j (hE G l cap) yad;obtain⟨cy,u,aI⟩:=fl.o _ bT;clear bg co fl bG ap bT c1 ar;go_wp2;go_roundw;exact⟨j+1,by omega,by go_num,⟨_,_,R1.o⟩,R2⟩;simp[intOf];omega
   obtain rfl:j=aa:=xaa;have R1:V _:=Kept.trans HK.o ar.o
   have R2:V (∀i,i<j->gH ((outs.map _).getD i _) _):=λi hi=>by
    have g:=List.all_eq_true.1 HO.o (outs.getD i 0) (by
     rw[yah,yal xaa]
     exact List.getElem_mem _)
    have t:=of_decide_eq_true g
    have bS:(outs.map λo=>z.getD o.toNat []).getD i []=z.getD (outs.getD i 0).toNat []:=by
     exact qR _ _ xaa
    rw[bS]
    exact r.o _ xaa
   have R3:V _:=hP;clear hP ar;go_wp2;go_ret2
   exact⟨_,_,_,_,rfl,hQ F.o ch.o,R3.o,by rw[List.length_map];exact aj,R2.o,R1.o⟩):Zp:=h
open cI in
theorem zP(w a1 Z a3 b Y c1 ab c2 aa c3 m b2 ins vs outs xss)(f:GS w a1 Y Z ab a3 aa ins vs outs)(s:SS w b m xss)(X:jk xss)(h:okG ins vs outs=true)(U:inB ins xss=true):
  Calls prog 11 #[eX a1 Y c1 Z ab c2 a3 aa c3,.slice b m b2] w λe J=>∃G aT ck z,e=.returned (.tuple #[hE G aa aa,hF 0])/\w.heap.size<=G/\SP J G aa aa aT ck z/\z.length=aa/\(∀j,j<aa->gH (z.getD j []) ((fw xss vs ab).getD (outs.getD j 0).toNat []))/\Kept 0 0 w J:=by
 exact qfh
theorem Oe(w lo hi a b n m bu b2 ins xss)(f:IS w lo hi a n ins)(g:SS w b m xss)(hn:n<=1099511627776):
  Calls prog 21 #[.slice a n bu,.slice b m b2] w λe J=>e=.returned (.bool (inB ins xss))/\Drawn w J:=by
 have aL:V _:=f;have bk:V _:=g;have HL:V (ins.length=n/\xss.length=m):=⟨f.len,g.len⟩
 clear f g;by_cases ae:m=n
 ·subst ae;go_enter func21,ntmps21;go_wp2_with fail;go_loopw [5] (λi W=>∃k:Nat,k<=m/\i=hF k/\V ((List.range k).all (λi=>((xss.getD i []).length:Int)==ins.getD i 0)=true)/\V (Drawn w W)) (λi _=>m-(intOf i).toNat)
  case atStart=>exact⟨0,Nat.zero_le _,rfl,rfl,Drawn.refl _⟩
  case round=>
   obtain⟨k,O,rfl,a2,aY⟩:=hrel;by_cases aB:k<m
   ·rcases aL.o.at_ with bR|⟨aA,bK,cc,aS,bb,bq,bD⟩
    ·omega
    rcases bk.o.at_ with bR|⟨ca,bB,cp,aR,aV⟩
    ·omega
    have c1:=(aY.o.cell _).trans (bD k aB);obtain⟨aD,h,c2',_,_⟩:=aV k aB;have c2:=(aY.o.cell _).trans c2';have b8:(0:Int)<=k:=xaa;have Q:(k:Int)<m:=xaa;subst cc cp;clear aS bb bq bD aR aV c2';cases ap:(((xss.getD k []).length:Int)==ins.getD k 0)
    ·have R:V (inB ins xss=false):=by
      show inB ins xss=false;unfold inB;rw[HL.o.1,lW aB ap,Bool.and_false]
     have av:(((xss.getD k []).length:Int) !=ins.getD k 0)=true:=by rw[bne,ap];rfl
     generalize (xss.getD k _).length=y at c2 av;generalize ins.getD k 0=x at c1 av;clear ap a2;go_wp2_with fail;go_quiet (fail)
     go_wp2;go_ret;exact⟨hU R.o,Drawn.more aY.o _⟩
    have R:V _:=kV a2.o ap;have av:(((xss.getD k []).length:Int) !=ins.getD k 0)=false:=by rw[bne,ap];rfl
    generalize (xss.getD k _).length=y at c2 av;generalize ins.getD k 0=x at c1 av;clear ap a2;go_wp2_with fail;go_quiet (fail)
    go_wp2;go_roundw;exact⟨k+1,by omega,by go_num,R,Drawn.more aY.o _⟩;simp[intOf];omega
   have R:V (inB ins xss=true):=by
    exact xhv
   clear a2;go_wp2;go_ret;exact⟨hU R.o,aY.o⟩
 have e:inB ins xss=false:=by
  exact xks
 rw[e];have t:((n:Int) !=m)=true:=by simp;omega
 go_enter func21,ntmps21;go_wp2;go_ret;exact⟨rfl,Drawn.refl _⟩
theorem Hw(w g off n c xs)(hn:1<=n)(b5:n<=1000000)(ap:xs.length=n)(aB:∀x∈xs,x<18446744073709551616)(ak:∀k,k<n->w.cell? ⟨g,off+k,none⟩=some (.float .f64 (xs.getD k 0))):
  Calls prog 23 #[.slice (some ⟨g,off,none⟩) n c] w λe J=>∃G cap,e=.returned (hE G n cap)/\n<=cap/\FO J G n xs/\w.heap.size<=G/\Kept 0 0 w J:=by
 obtain⟨bC,hi,bn,bQ,br⟩:=info_parts lD;have bw:V _:=BK ap ak;have HO:V _:=yav w w.heap.size 38 1;have bu:V _:=ap;have f:V _:=aB;clear ak ap aB;go_enter func23,ntmps23;go_wp2_with (first|(at_builtin;refine wpList_append_own _ rfl _ _ _ rfl _ 38 _ _ 1 8 underlying54 hi bn bQ br rfl xab _ _ _ rfl HO.o _ n c _ rfl ?c0 bw.o ?c2 ?c3 ?c4 ?c5 ?_))
 case c0=>exact bu.o
 case c2=>intro u aI;rfl
 case c3=>unfold maxLen;omega
 case c4=>omega
 intro v' be bv a6 _;have aU:be.ownsRow w.heap.size 38 1 v' n (xs.map (Value.float .f64)):=by simpa using bv
 obtain⟨G,cap,rfl,N,aD,ad⟩:=FO.of_own aU xaa bu.o f.o;have R:V _:=jo a6 (λk O=>by simp[Value.ownBlock]at O) (Kept.refl 0 0 w) yad;clear bv a6 aU;go_wp2;go_ret;exact⟨G,_,by simp,aD,ad,N,R.o⟩
theorem Of(v)(ao:q<3):fld v q=[v.a,v.b,v.c].getD q 0:=by
 rcases (by omega:q=0\/q=1\/q=2) with rfl|rfl|rfl<;>rfl
theorem Og(v l)(ao:q<cnt v.op):(opl v l (cnt v.op)).getD q []=l.getD (fld v q).toNat []:=by
 have:=gK v.op;rcases (by omega:q=0\/q=1\/q=2) with rfl|rfl|rfl
 ·show(if 0<cnt v.op then _ else _)=_;rw[hI ao];rfl
 ·show(if 1<cnt v.op then _ else _)=_;rw[hI ao];rfl
 show(if 2<cnt v.op then _ else _)=_;rw[hI ao];rfl
theorem KQ(v l)(ao:q<3)(h:¬q<cnt v.op):(opl v l (cnt v.op)).getD q []=[]:=by
 rcases (by omega:q=0\/q=1\/q=2) with rfl|rfl|rfl
 ·show(if 0<cnt v.op then _ else _)=_;rw[hG h]
 ·show(if 1<cnt v.op then _ else _)=_;rw[hG h]
 show(if 2<cnt v.op then _ else _)=_;rw[hG h]
theorem jT{base e size:Nat}{xs}{W:World}(h:W.ownsRow base e size v n xs)(O:v.ownBlock=some k):base<=k/\k<W.heap.size:=by
 rcases h.2 with⟨rfl,_⟩|⟨g,cap,H,rfl,N,aD,_⟩
 ·simp[Value.ownBlock]at O
 have e:g=k:=by simpa[Value.ownBlock] using O
 subst e;refine⟨N,?_⟩;exact xdl
theorem po{W W'}{us:List Value}{l:List (List Nat)}(h:∀j,j<k->∃b n c,us[j]? =some (.slice b n c)/\Cl W (.slice b n c) (l.getD j [])/\(0<n->∀p,b=some p->v.ownBlock≠some p.block))(q:Kept 0 0 W W'):
  ∀j,j<k->∃b n c,us[j]? =some (.slice b n c)/\Cl W' (.slice b n c) (l.getD j [])/\(0<n->∀p,b=some p->v.ownBlock≠some p.block):=λj hj=>by
 obtain⟨b,n,c,a1,Z,a3⟩:=h j hj
 exact⟨b,n,c,a1,Z.keep q,a3⟩
theorem tX(h:xss.length=k):(xss++[bc]).getD k []=bc:=by
 rw[yah,yar xaa,h,Nat.sub_self];rfl
theorem zQ(h:q<xs.length):xs.getD q 0∈xs:=by
 exact xjm
theorem KR(ok:okV ins vs k=true)(ai:(vs.getD k hK).op≠0):
  (1<=(vs.getD k hK).op/\(vs.getD k hK).op<=13)/\∀q,q<cnt (vs.getD k hK).op->0<=fld (vs.getD k hK) q/\fld (vs.getD k hK) q<k:=by
 unfold okV at ok;rw[hG ai]at ok;simp only[Bool.and_eq_true]at ok;refine⟨?_,λq ao=>?_⟩
 ·by_cases c:0<=(vs.getD k hK).op/\(vs.getD k hK).op<=13
  ·omega
  have:=ok.2.2;rw[q8 c]at this;cases this
 have h:=List.all_eq_true.1 ok.2.1 _ (zQ (by rw[ja];exact ao));have U:=of_decide_eq_true h;rw[zp _ ao,<-Of _ (hO (gK (vs.getD k hK).op))]at U;exact U
theorem Px(ok:okV ins vs k=true)(ai:(vs.getD k hK).op=0):
  0<=(vs.getD k hK).a/\(vs.getD k hK).a<ins.length/\1<=(vs.getD k hK).len/\(vs.getD k hK).len<=1000/\(vs.getD k hK).len=ins.getD (vs.getD k hK).a.toNat 0:=by
 have l:=iq ok;unfold okV at ok;rw[hI ai]at ok;simp only[Bool.and_eq_true]at ok;have:=of_decide_eq_true ok.2.1;exact⟨this.1,this.2,l.1,l.2,by simpa using ok.2.2⟩
def NC(w':World)(A B:Nat)(v:Vl)(x0 x1 x2:Value):Prop:=
 w'.cell? ⟨A,0,none⟩=some (.int .i64 v.op)/\w'.cell? ⟨A,0+1,none⟩=some (.int .i64 v.len)/\w'.cell? ⟨A,0+2,none⟩=some (.int .i64 v.a)/\w'.cell? ⟨A,0+3,none⟩=some (.int .i64 v.b)/\w'.cell? ⟨A,0+4,none⟩=some (.int .i64 v.c)/\w'.cell? ⟨A,0+5,none⟩=some (.float .f64 v.k)/\w'.cell? ⟨B,0,none⟩=some x0/\w'.cell? ⟨B,1,none⟩=some x1/\w'.cell? ⟨B,2,none⟩=some x2
theorem NC.of{v}(h:NC w A I v bI bL bM)(e:∀g o u,(g=A\/g=I)->w.cell? ⟨g,o,none⟩=some u->J.cell? ⟨g,o,none⟩=some u):NC J A I v bI bL bM:=by
 obtain⟨ai,B,U,h3,a6,bK,bm,bP,R⟩:=h;exact⟨e _ _ _ (.inl rfl) ai,e _ _ _ (.inl rfl) B,e _ _ _ (.inl rfl) U,e _ _ _ (.inl rfl) h3,e _ _ _ (.inl rfl) a6,e _ _ _ (.inl rfl) bK,e _ _ _ (.inr rfl) bm,e _ _ _ (.inr rfl) bP,e _ _ _ (.inr rfl) R⟩
theorem NC.keep{v}(h:NC w A I v bI bL bM)(k:Kept 0 0 w J)(a2:A<w.heap.size)(aT:I<w.heap.size):NC J A I v bI bL bM:=
 h.of λg o u aQ ak=>jC k (by rcases aQ with rfl|rfl;exact a2;exact aT) ak
theorem NC.far{ay bK v}(h:NC w A I v bI bL bM)(aQ:w.grownBy J ay)(av:∀i,ay=some i->i<bK)(e:bK<=A)(f:bK<=I)(a2:A<w.heap.size)(aT:I<w.heap.size):NC J A I v bI bL bM:=
 h.of λg o u t ak=>by
  rw[aQ.cell_far _ (by rcases t with rfl|rfl;exact a2;exact aT) (λc=>hO (av g c.symm))]
  exact ak
theorem cJ.qco(h:Zp:=by
 clear ar h f s X;go_enter func22,ntmps22;go_wp2_with fail;generalize w.alloc _=aG at aH aL au HK ch⊢;go_loopw [5,6] (λu i W=>∃k:Nat,k<=ab/\i=hF k/\V (AR W aG.heap.size u k (fw xss vs k))/\V (Kept 0 0 aG W)) (λ_ i _=>ab-(intOf i).toNat)
 case atStart=>exact⟨0,Nat.zero_le _,rfl,AR.nil _ _ _,Kept.refl _ _ _⟩
 case round=>
  obtain⟨k,O,rfl,hP,ar⟩:=hrel;have aK:=(G0.keep aH.o ar.o).q1;by_cases aB:k<ab
  ·have bx:=GS.keep aL.o ar.o;rcases bx.v.at_ with bR|⟨aA,bK,cc,aS,bb,bq,bD⟩
   ·omega
   have bm:=bD k aB;have ok:=List.all_eq_true.1 b1.o k (List.mem_range.2 aB)
   have ad:(vs.getD k hK).k<18446744073709551616:=by
    rw[yah];cases ba:vs[k]? with
    |none=>decide
    |some v=>exact bx.v.lt v (List.mem_of_getElem? ba)
   have a7:V _:=ad;exact qfw
  obtain rfl:k=ab:=xaa;obtain⟨a,cap,z,rfl,(R1:V _),(R2:V _)⟩:=hP.o.ss;have R3:V _:=Kept.trans HK.o ar.o;clear hP ar;go_wp2;go_ret;exact⟨a,_,_,rfl,R1.o,R2.o,R3.o⟩):Zp:=h
theorem cJ.qfx(h:Zp:=by
 have cq:V _:=cd;obtain⟨us,aU,(F:V _)⟩:=hP.o;have aM:V (∀i,u5.ownBlock=some i->_):=λi hi=>(jT aU hi).2;have aj:V _:=kP aU cd;clear aU;by_cases b7:(vs.getD k hK).op=0
 ·have ah:V (fw xss vs (k+1)=fw xss vs k++[xss.getD (vs.getD k hK).a.toNat []]):=by
   show _=_;rw[fw];unfold one;rw[hI b7]
  have cz:=Px ok b7;rw[af]at cz;have g:=bU.o (vs.getD k hK).a.toNat xaa;rw[<-cz.2.2.2.2]at g;clear aS bb bq bD ok bx cd ad;generalize vs.getD k _=v at bm cq aj ah b7 cz g a7;obtain⟨op,len,A,I,C,K⟩:=v;simp only at b7 cz g ah;subst b7;obtain⟨x,rfl⟩:∃x:Nat,A=x:=⟨A.toNat,by omega⟩
  rw[Int.toNat_natCast]at g ah;have ct:x<m:=hO ae.o
  rcases (SS.keep au.o (Kept.trans ar.o cq.o)).at_ with bR|⟨ca,bB,cp,aR,aV⟩
  ·omega
  obtain⟨N,R,bG,aC,ay⟩:=aV x ct;rcases ay.at_ with bR|⟨cr,aD,am,bL,bM,cj,cx⟩
  ·omega
  have bg:V _:=Hw _ _ _ _ R _ xaa xaa rfl ay.lt cx;subst cc cp am;clear aR aV aC ay bL bM cj cx;generalize xss.getD x _=bc at bG bg ah g;obtain⟨l,al⟩:∃l,l=bc.length:=⟨_,rfl⟩
  rw[<-al]at bG bg g;have P:V (l=bc.length/\1<=l/\l<=1000):=⟨al,by omega,by omega⟩
  clear cz g al;obtain⟨bw,d1,d2,d3,d4,d5⟩:=bm;simp only at bw d1 d2 d3 d4 d5;go_wp2_with fail;refine yai bg.o ?_;rintro e bF ⟨G,cap,rfl,bP,ap,ce,bT⟩;have aU:=kP aj.o bT;have a9:=(Kept.trans ar.o (Kept.trans cq.o bT)).size;clear bg bG bw d1 d2 d3 d4 d5 aK;go_wp2_with (first|(at_builtin;refine wpList_append_lies _ rfl _ _ _ rfl _ 54 _ _ 1 _ underlying32 hi bn bQ br rfl xab _ _ _ rfl (aU.alloc _) _ 1 1 [hE G l cap] rfl rfl ?c1 ?c2 xab ?c3 ?c4 ?c5 _ rfl ?_))
  case c1=>exact cell_one_new _ _ _
  case c2=>intro u aI;simp at aI;subst aI;rfl
  case c3=>unfold maxLen;omega
  case c4=>omega
  case c5=>simp;omega
  intro g9 cap9 be bv a6 b9 _
  have R1:V (AR be _ _ _ _):=
   AR.step aU (po F.o (Kept.trans cq.o bT)) ⟨_,_,_,_,rfl,bP,ap.fs,rfl⟩ (λ_ p aF c=>by
    cases aF
    have:=(jT aj.o (k:=G) c).2
    omega) bv a6 (by rcases b9 with h|h;exact .inl h;exact .inr (by rw[h];simp)) (λj hj=>jh _ _ hj) (by rw[ah.o];exact tX (i5 _ _ _))
  have R2:V _:=jo a6 (λi hi=>(jT aU hi).1) ((Kept.trans ar.o (Kept.trans cq.o bT)).trans (ez 0 0 _ _)) yad;clear bv a6 b9 aU bT ap F aj cq hP ar;exact xer
 have ah:V (fw xss vs (k+1)=fw xss vs k++[kop (vs.getD k hK) (fw xss vs k)]):=by
  show _=_;rw[fw];unfold one;rw[hG b7];rfl
 have cn:=KR ok b7;have bk:V _:=cn.2;have av:=cn.1;clear cn aS bb bq bD ok bx cd ad;generalize vs.getD k _=v at bm cq aj ah b7 av bk a7;subst cc;have bz:V _:=BZ wr v;have an:V (wr.heap.size<(wr.alloc (eM v.op v.len v.a v.b v.c v.k)).heap.size):=by show _<_;simp
 obtain⟨bw,d1,d2,d3,d4,d5⟩:=bm;have bf:=yam b7;clear b7;obtain⟨ag,cf⟩:∃ag,ag=wr:=⟨_,rfl⟩
 subst cf;go_wp2_with fail;clear bw d1 d2 d3 d4 d5 aK bf;have aJ:V _:=(⟨_,aj.o,po F.o cq.o⟩:AR _ _ _ k _)
 have bX:V _:=Kept.trans ar.o cq.o;have aX:=cq;clear cq aj F ar;generalize ag.alloc _=a8 at bz an aJ bX aX⊢;go_loopw [8,9] (λa i W=>∃q:Nat,q<=3/\i=hF q/\V (AR W a8.heap.size a q (opl v (fw xss vs k) (cnt v.op)))/\V (Kept 0 0 a8 W)) (λ_ i _=>3-(intOf i).toNat)
 case atStart=>exact⟨0,Nat.zero_le _,rfl,AR.nil _ _ _,Kept.refl _ _ _⟩
 case round=>
  obtain⟨q,ao,rfl,a2,r⟩:=hrel;obtain⟨aW,aq,aN,bA,cw,cC⟩:=bz.o.keep an.o r.o yaa;have HO:V _:=iG v.op wr xaa xaa;rw[yg av.1 av.2]at HO;have cI:=gK v.op;by_cases cb:q<3
  ·obtain⟨t,H,aP⟩:=a2.o;by_cases b4:q<cnt v.op
   ·have aY:=bk.o q b4;have tq:q<(cnt v.op:Int):=xaa;obtain⟨o,ax⟩:∃o:Nat,fld v q=o:=⟨(fld v q).toNat,by omega⟩
    have co:=mE wr v q xaa;have b3:=Og v (fw xss vs k) b4;rw[ax]at co aY b3;rw[Int.toNat_natCast]at b3;have bu:V _:=co;have HE:V _:=b3;obtain⟨cV,bY,c6,ci,cR,dg⟩:=AR.cell aJ.o xaa;obtain⟨N,m1,R,bG,aC,_⟩:=dg o xaa;have cB:V _:=aC;have b6:o<k:=xaa;subst c6;clear dg ci aC;go_wp2_with (first|(go_at_call 42;refine yai HO.o ?_;rintro e bj ⟨rfl,rfl⟩)|fail);refine yai bu.o ?_;rintro e bF ⟨rfl,bW⟩;have y:=kP H bW;have ay:=jC (Kept.trans r.o bW) cR bG;have a9:=(Kept.trans r.o bW).size;clear aW aq aN bA cw cC bu HO;go_wp2_with (first|(at_builtin;refine wpList_append_lies _ rfl _ _ _ rfl _ 54 _ _ 1 _ underlying32 hi bn bQ br rfl xab _ _ _ rfl (y.alloc _) _ 1 1 [.slice N m1 R] rfl rfl ?c1 ?c2 xab ?c3 ?c4 ?c5 _ rfl ?_))
    case c1=>exact cell_one_new _ _ _
    case c2=>intro u aI;simp at aI;subst aI;rfl
    case c3=>unfold maxLen;omega
    case c4=>omega
    case c5=>simp;omega
    intro g9 cap9 be bv a6 b9 _
    have R1:V (AR be _ _ _ _):=
     AR.step y (po aP bW) (Cl.keep cB.o (Kept.trans r.o bW)) (λhn p aF c=>by
      have B:=(jT y c).1
      have U:=Cl.lt cB.o hn p aF
      omega) bv a6 (by rcases b9 with h|h;exact .inl h;exact .inr (by rw[h];simp)) (λj hj=>rfl) HE.o
    have R2:V _:=jo a6 (λi hi=>(jT y hi).1) ((Kept.trans r.o bW).trans (ez 0 0 _ _)) yad;clear bv a6 b9 y bW aP H a2 r ay bG;exact xip
   have tq:¬(q<(cnt v.op:Int)):=xaa;have HE:V _:=KQ v (fw xss vs k) cb b4;have a9:=r.o.size;go_wp2_with (first|(go_at_call 42;refine yai HO.o ?_;rintro e bj ⟨rfl,rfl⟩)|(at_builtin;refine wpList_append_lies _ rfl _ _ _ rfl _ 54 _ _ 1 _ underlying32 hi bn bQ br rfl xab _ _ _ rfl (H.alloc _) _ 1 1 [.slice none 0 0] rfl rfl ?c1 ?c2 xab ?c3 ?c4 ?c5 _ rfl ?_))
   case c1=>exact cell_one_new _ _ _
   case c2=>intro u aI;simp at aI;subst aI;rfl
   case c3=>unfold maxLen;omega
   case c4=>omega
   case c5=>simp;omega
   intro g9 cap9 be bv a6 b9 _
   have R1:V (AR be _ _ _ _):=
    AR.step H aP (Cl.nil _) (λhn=>absurd hn (Nat.lt_irrefl _)) bv a6 (by rcases b9 with h|h;exact .inl h;exact .inr (by rw[h];simp)) (λj hj=>rfl) HE.o
   have R2:V _:=jo a6 (λi hi=>(jT H hi).1) (Kept.trans r.o (ez 0 0 _ _)) yad;clear bv a6 b9 aP H a2 r aW aq aN bA cw cC HO;exact xip
  obtain rfl:q=3:=xaa;obtain⟨S,cT,b0,cg,cS,cl⟩:=AR.cell a2.o xaa;obtain⟨bI,bd,bi,bZ,bH,_⟩:=cl 0 xaa;obtain⟨bL,aR,a5,bG,f1,_⟩:=cl 1 xaa;obtain⟨bM,aV,p2,aC,f2,_⟩:=cl 2 xaa;have HE:V _:=λm=>yY _ v a7.o _ _ _ _ _ _ (bH.keep (eL 0 0 _ m)) (f1.keep (eL 0 0 _ m)) (f2.keep (eL 0 0 _ m)) (pQ (bp.o k _));obtain⟨us,aw,bS⟩:=AR.keep aJ.o r.o;have bl:V _:=bS;have aQ:V _:=Kept.trans bX.o r.o;have cW:=aQ.o.size;subst b0;have bV:=cg;clear cl cg bH f1 f2 bS a2 HO aJ;go_wp2_with fail;have aT:V (NC _ _ _ v _ _ _):=⟨aW,aq,aN,bA,cw,cC,bZ,bG,aC⟩
  have ak:V (a8.heap.size<=S/\S<wr.heap.size/\ag.heap.size<wr.heap.size/\ag.heap.size<=S):=⟨bV,cS,hQ r.o.size an.o,hO an.o⟩
  go_region_held3 (λJ=>J.cell? ⟨ag.heap.size,0,none⟩=some (hF v.op)/\J.cell? ⟨ag.heap.size,0+1,none⟩=some (hF v.len)/\J.cell? ⟨ag.heap.size,0+2,none⟩=some (hF v.a)/\J.cell? ⟨ag.heap.size,0+3,none⟩=some (hF v.b)/\J.cell? ⟨ag.heap.size,0+4,none⟩=some (hF v.c)/\J.cell? ⟨ag.heap.size,0+5,none⟩=some (.float .f64 v.k)/\J.cell? ⟨S,0,none⟩=some (.slice bI bd bi)/\J.cell? ⟨S,1,none⟩=some (.slice bL aR a5)/\J.cell? ⟨S,2,none⟩=some (.slice bM aV p2)) (go_keep)
   (first
    |(go_at_call 47;refine yai (HE.o _) ?_;rintro e bF ⟨u,rfl,⟨bE,bo,c5,cX,rfl,cA,ck,ew⟩,bW⟩;have cF:=NC.keep aT.o (Kept.trans (eL 0 0 _ 1) bW) ak.o.2.2.1 ak.o.2.1;obtain⟨b8,Q,bh,cJ,cG,cH,cK,cM,cN⟩:=cF)
    |(refine step_append_lies _ rfl _ _ _ rfl _ 54 _ _ 1 _ underlying32 hi bn bQ br rfl xab _ _ _ (by simp[Act.eval]) ((kP aw (Kept.trans (eL 0 0 _ 1) bW)).alloc _) _ 1 1 _ (by simp[Act.eval]) rfl (cell_one_new _ _ _) (by intro u aI;simp at aI;subst aI;rfl) xab (by unfold maxLen;omega) xaa (by have:=bW.size;simp at this;simp;omega) _ rfl ?_;intro g9 cap9 be bv a6 b9 _;have bO:=NC.far (NC.keep aT.o ((Kept.trans (eL 0 0 _ 1) bW).trans (ez 0 0 _ _)) ak.o.2.2.1 ak.o.2.1) a6 aM.o yad ak.o.2.2.2 (by have:=bW.size;have:=ak.o;simp at*;omega) (by have:=bW.size;have:=ak.o;simp at*;omega);obtain⟨bN,bJ,b5,cu,cD,cU,cO,cP,cQ⟩:=bO))
  have aO:=Kept.trans (eL 0 0 _ 1) bW
  have R1:V (AR be _ _ _ _):=
   AR.step (kP aw aO) (po bl.o aO) (Cn.cl ⟨_,_,_,_,rfl,cA,ck,ew⟩) (λai p aF c=>by
    have B:=(jT aw c).2
    have U:=Cn.ge ⟨_,_,_,_,rfl,cA,ck,ew⟩ ai p aF
    have h3:(wr.drewN 1).heap.size=wr.heap.size:=rfl
    omega) bv a6 (by rcases b9 with h|h;exact .inl h;exact .inr h) (λj hj=>jh _ _ hj) (by rw[ah.o];exact tX (i5 _ _ _))
  have R2:V _:=jo a6 (λi hi=>(jT aw hi).1) ((Kept.trans aQ.o aO).trans (ez 0 0 _ _)) yad;clear bv a6 b9 aw bl HE aQ aT ak bW aO cA ck ew bN bJ b5 cu cD cU cO cP cQ b8 Q bh cJ cG cH cK cM cN aW aq aN bA cw cC;exact xer):Zp:=h
open cJ in
theorem Hx(w a1 Z a3 b Y c1 ab c2 aa c3 m b2 ins vs outs xss)(f:GS w a1 Y Z ab a3 aa ins vs outs)(s:SS w b m xss)(X:jk xss)(h:(List.range ab).all (okV ins vs)=true)(U:inB ins xss=true)(b5:ab<=2000):
  Calls prog 22 #[eX a1 Y c1 Z ab c2 a3 aa c3,.slice b m b2] w λe J=>∃a cap z,e=.returned (.slice a ab cap)/\SS J a ab z/\(∀j,j<ab->gH (z.getD j []) ((fw xss vs ab).getD j []))/\Kept 0 0 w J:=by
 obtain⟨bC,hi,bn,bQ,br⟩:=info_parts BJ;have af:=f.i.len;have a0:=f.v.len;have b1:V _:=h
 have bp:V _:=lS X (λk=>by
  rw[yah]
  cases ba:vs[k]? with
  |none=>decide
  |some v=>exact f.v.lt v (List.mem_of_getElem? ba))
 have bU:V (∀i,i<Y->((xss.getD i _).length:Int)=ins.getD i 0):=λi hi=>by
  have:=U
  unfold inB at this
  simp only[Bool.and_eq_true,af]at this
  simpa using List.all_eq_true.1 this.2 i (List.mem_range.2 hi)
 have ae:V (m=Y):=by
  exact xin
 have ar:=ez 0 0 w (eZ a1 Y c1 Z ab c2 a3 aa c3);exact qcn
theorem dS.qfi(h:Zp:=by
 have C:V _:=X;have B:V _:=qJ U _ aM;have ar:=ez 0 0 w (eZ a1 Y c1 Z ab c2 a3 aa c3);have bu:V _:=re _ _ _ _ _ c1 _ c2 _ c3 _ _ _ (f.keep ar);rw[h]at bu;have aH:V _:=fO w (.slice a1 Y c1) (.slice Z ab c2) (.slice a3 aa c3);have aL:V _:=f.keep ar;have au:V _:=s.keep ar;have HK:V _:=ar;clear ar h f s ax aM X;go_enter func7,ntmps7;go_wp2_with fail;generalize w.alloc _=aG at bu aH aL au HK⊢;refine yai bu.o ?_;rintro e ag ⟨rfl,an⟩;obtain⟨_,a7,aK,aP⟩:=G0.keep aH.o an;have bV:V _:=Oe _ _ _ _ b _ m c1 b2 _ _ (GS.keep aL.o an).i (SS.keep au.o an) xaa;exact qhm):Zp:=h
theorem dS.qhn(h:Zp:=by
 obtain⟨_,a7,aK,aP⟩:=G0.keep aH.o aJ;have ch:V _:=Hx _ _ _ _ b _ c1 _ c2 _ c3 m b2 _ _ _ _ (GS.keep aL.o aJ) (SS.keep au.o aJ) C.o b1.o U b5;have bX:V _:=aJ;clear d3 aJ bV bN;go_wp2_with fail;clear a7 aK aP;refine yai ch.o ?_;rintro e bj ⟨co,bY,z,rfl,(aY:V _),(x:V _),b7⟩;have bU:V _:=Kept.trans bX.o b7;clear ch bX b7;go_wp2_with fail;go_loopw [7,8] (λu i W=>∃k:Nat,k<=aa/\i=hF k/\V (AR W bj.heap.size u k (outs.map λo=>(fw xss vs ab).getD o.toNat []))/\V (Kept 0 0 bj W)) (λ_ i _=>aa-(intOf i).toNat)
 case atStart=>exact⟨0,Nat.zero_le _,rfl,AR.nil _ _ _,Kept.refl _ _ _⟩
 case round=>
  obtain⟨j,hj,rfl,hP,ar⟩:=hrel;have aP:=(G0.keep aH.o (Kept.trans bU.o ar.o)).q2;by_cases aB:j<aa
  ·rcases (GS.keep aL.o (Kept.trans bU.o ar.o)).o.at_ with bR|⟨aA,bK,cc,aS,bb,bq,bD⟩
   ·omega
   have c1:=bD j aB;have g:=List.all_eq_true.1 HO.o (outs.getD j 0) (zQ xaa);have t:=of_decide_eq_true g;have bS:=qR outs (fw xss vs ab) (j:=j) xaa;obtain⟨o,ax⟩:∃o:Nat,outs.getD j 0=o:=⟨(outs.getD j 0).toNat,by omega⟩
   rw[ax,Int.toNat_natCast]at bS;rw[ax]at c1 t;have K:V _:=bS;have H:o<ab:=xaa;rcases (SS.keep aY.o ar.o).at_ with bR|⟨ca,bB,cp,aR,aV⟩
   ·omega
   obtain⟨N,R,bG,aC,ay⟩:=aV o H;have aW:=x.o o H
   have b8:1<=(z.getD o []).length/\(z.getD o []).length<=1000:=by
    have aq:=jY aW;exact xjd
   have bx:V _:=aW;rcases ay.at_ with bR|⟨cr,aD,am,bL,bM,cj,cx⟩
   ·omega
   have bg:V _:=Hw _ _ _ _ R _ b8.1 xaa rfl ay.lt cx;obtain⟨us,aU,cy⟩:=hP.o;have F:V _:=cy;subst cc cp am;clear aS bb bq bD aR aV aC ay bL bM cj cx bS g t hP ax aW cy;generalize z.getD o _=bc at bG bg bx b8;obtain⟨l,al⟩:∃l,l=bc.length:=⟨_,rfl⟩
   rw[<-al]at bG bg b8;clear al;go_wp2_with fail;refine yai bg.o ?_;rintro e bF ⟨G,cap,rfl,bP,ap,ce,bT⟩;have y:=kP aU bT;have a9:=(Kept.trans ar.o bT).size;clear bg bG aP c1;go_wp2_with (first|(at_builtin;refine wpList_append_lies _ rfl _ _ _ rfl _ 54 _ _ 1 _ underlying32 hi bn bQ br rfl xab _ _ _ rfl (y.alloc _) _ 1 1 [hE G l cap] rfl rfl ?c1 ?c2 xab ?c3 ?c4 ?c5 _ rfl ?_))
   case c1=>exact cell_one_new _ _ _
   case c2=>intro u aI;simp at aI;subst aI;rfl
   case c3=>unfold maxLen;omega
   case c4=>omega
   case c5=>simp;omega
   intro g9 cap9 be bv a6 b9 _
   have R1:V (AR be _ _ _ _):=
    AR.step y (po F.o bT) ⟨_,_,_,_,rfl,bP,ap.fs,bx.o⟩ (λ_ p aF c=>by
     cases aF
     have:=(jT aU (k:=G) c).2
     omega) bv a6 (by rcases b9 with h|h;exact .inl h;exact .inr (by rw[h];simp)) (λ_ _=>rfl) K.o
   have R2:V _:=jo a6 (λi hi=>(jT y hi).1) ((Kept.trans ar.o bT).trans (ez 0 0 _ _)) yad;clear bv a6 b9 aU y bT ap F ar;go_wp2;go_roundw;exact⟨j+1,by omega,by go_num,R1,R2⟩;simp[intOf];omega
  obtain rfl:j=aa:=xaa;obtain⟨a,cap,r,rfl,az,aZ⟩:=AR.ss hP.o;have R1:V _:=az
  have R2:V (∀i,i<j->gH _ ((fw _ _ _).getD (outs.getD i 0).toNat _)):=λi hi=>by
   rw[<-qR _ _ xaa]
   exact aZ i hi
  have R3:V _:=Kept.trans HK.o (Kept.trans bU.o ar.o);clear az aZ hP ar;go_wp2;go_ret2
  exact⟨a,_,_,rfl,R1.o,R2.o,R3.o⟩):Zp:=h
open dS in
theorem zR(w a1 Z a3 b Y c1 ab c2 aa c3 m b2 ins vs outs xss)(f:GS w a1 Y Z ab a3 aa ins vs outs)(s:SS w b m xss)(X:jk xss)(h:okG ins vs outs=true)(U:inB ins xss=true):
  Calls prog 7 #[eX a1 Y c1 Z ab c2 a3 aa c3,.slice b m b2] w λe J=>∃a cap z,e=.returned (.tuple #[.slice a aa cap,hF 0])/\SS J a aa z/\(∀j,j<aa->gH (z.getD j []) ((fw xss vs ab).getD (outs.getD j 0).toNat []))/\Kept 0 0 w J:=by
 obtain⟨bC,hi,bn,bQ,br⟩:=info_parts BJ;exact qfh
def Ef(ins:List Int):Nat->Nat
 |0=>0
 |j+1=>Ef ins j+(ins.getD j 0).toNat
def inW(ys:List Int)(p:Nat):Nat:=
 if lM ys p%16=9 then cop .quo (floatOfInt .f64 ((lM ys p:Int)%7-3)) 4613937818241073152
 else if lM ys p=250 then cop .quo 4607182418800017408 0
 else if lM ys p=251 then cop .quo 0 0
 else if lM ys p=252 then Op.negFloat .f64 0
 else if lM ys p=253 then cop .mul 9214871658872686752 (floatOfInt .f64 ((lM ys p:Int)%7-3))
 else floatOfInt .f64 ((lM ys p:Int)%7-3)
def zS(ys:List Int)(q n:Nat):List Nat:=(List.range n).map λk=>inW ys (q+k)
def inN(ys ins:List Int):List (List Nat):=(List.range ins.length).map λj=>zS ys (Ef ins j) (ins.getD j 0).toNat
theorem Eg(bc q n):zS bc q (n+1)=zS bc q n++[inW bc (q+n)]:=by
 unfold zS;rw[List.range_succ,List.map_append];rfl
theorem Cd(bc)(h:j<ins.length):(inN bc ins).getD j []=zS bc (Ef ins j) (ins.getD j 0).toNat:=by
 unfold inN;exact mz _ h
theorem Eh{xs x y}(h:gH xs bc)(e:fb x=fb y):gH (xs++[x]) (bc++[y]):=by
 unfold gH at*;simp[h,e]
theorem SS.words(f:SS w a n xss):jk xss:=λk x ap=>by
 by_cases c:k<n
 ·rcases f.at_ with z|⟨g,off,_,_,h⟩
  ·omega
  ·obtain⟨b,c,_,_,ab⟩:=h k c
   exact ab.lt x ap
 ·rw[yah,List.getElem?_eq_none (hT f.len)]at ap
  cases ap
theorem Hy{al z bR T l R R'}(h:w.ownsRow I T 1 v n (l.map (Value.float .f64)++[.float .f64 z]))(ae:gH l R/\l.length=al/\∀x∈l,x<18446744073709551616)(C:R'=R++[bR])(e:fb z=fb bR)(bz:z<18446744073709551616):
  ∃B:List Nat,w.ownsRow I T 1 v n (B.map (Value.float .f64))/\gH B R'/\B.length=al+1/\∀x∈B,x<18446744073709551616:=by
 refine⟨l++[z],by rw[List.map_append];exact h,by rw[C];exact Eh ae.1 e,by rw[yak,ae.2.1];rfl,λx ap=>?_⟩;rcases List.mem_append.1 ap with c|c
 ·exact ae.2.2 x c
 rw[List.mem_singleton.1 c];exact bz
theorem KT{lo hi' b bu bJ cm bc}(f:IS w lo hi' a n ins)(bS:YS w b bJ bc)(aw:bJ<=1048576)(hn:n<=21)(ah:∀j,j<n->1<=ins.getD j 0/\ins.getD j 0<=1000):
  Calls prog 8 #[.slice a n bu,.slice b bJ cm,.bool true] w λe J=>∃ag cap z,e=.returned (.slice ag n cap)/\SS J ag n z/\(∀j,j<n->gH (z.getD j []) ((inN bc ins).getD j []))/\Kept 0 0 w J:=by
 obtain⟨bC,hi,bn,bQ,br⟩:=info_parts BJ;obtain⟨cA,ae,af,ai,ak⟩:=info_parts lD;have aL:V _:=f;have bV:V _:=bS;have HL:V _:=ah;have bw:V _:=f.len;have f1:=@kL prog;have f2:=@mT prog;have f3:=s7;clear f bS ah;go_enter func8,ntmps8;go_wp2_with fail;go_loopw [8,9,10] (λu p i W=>∃k q:Nat,k<=n/\q<=1000*k/\i=hF k/\p=hF q/\V (q=Ef ins k)/\V (AR W w.heap.size u k (inN bc ins))/\V (Kept 0 0 w W)) (λ_ _ i _=>n-(intOf i).toNat)
 case atStart=>exact⟨0,0,Nat.zero_le _,Nat.zero_le _,rfl,rfl,rfl,AR.nil _ _ _,Kept.refl _ _ _⟩
 case round=>
  obtain⟨ay,C⟩:∃ay,ay=wr:=⟨_,rfl⟩
  subst C;obtain⟨k,q,O,ao,rfl,rfl,aa,a2,ar⟩:=hrel;by_cases aB:k<n
  ·rcases (aL.o.keep ar.o yaa).at_ with bR|⟨g,off,cc,aS,bb,bq,bD⟩
   ·omega
   cases cc;have cI:=HL.o k aB;obtain⟨m,Q⟩:∃m:Nat,ins.getD k 0=m:=⟨(ins.getD k 0).toNat,by omega⟩
   have o:V ((inN bc ins).getD k []=zS bc q m):=by
    show _=_;rw[Cd _ (hR bw.o aB),Q,aa.o];rfl
   have di:V (Ef ins (k+1)=q+m):=by show Ef ins k+_=_;rw[Q,aa.o];rfl
   have aX:V (ay.cell? ⟨g,off+k,none⟩=some (hF m)/\g<ay.heap.size):=⟨by rw[<-Q];exact bD k aB,bq⟩
   rw[Q]at cI;have a5:m<=1000:=xaa;have H:V (1<=m):=by show 1<=m;omega
   obtain⟨us,(aj:V _),(F:V _)⟩:=a2.o;clear aS bb bq bD cI Q a2;have bW:=aX.o.1;go_wp2_with fail;clear bW;go_loopw [9,11,12] (λp v j W=>∃(al:Nat) (l:List Nat),al<=m/\p=hF ((q:Int)+al)/\j=hF al/\V (W.ownsRow ay.heap.size 38 1 v al (l.map (Value.float .f64)))/\V (gH l (zS bc q al)/\l.length=al/\∀x∈l,x<18446744073709551616)/\V (Kept 0 0 ay W)) (λ_ _ j _=>m-(intOf j).toNat)
   case atStart=>exact⟨0,[],Nat.zero_le _,by simp,rfl,yav _ _ _ _,⟨rfl,rfl,λx ap=>by cases ap⟩,Kept.refl _ _ _⟩
   case round=>
    obtain⟨al,l,K,rfl,rfl,y,Y,P⟩:=hrel;have X:=P.o.cell (p:=⟨g,off+k,none⟩) aX.o.2 (by show ¬(0<=g/\g<0);omega);rw[aX.o.1]at X;by_cases cz:al<m
    ·have ba:V (Calls _ _ #[.slice b _ cm,.int _ (q+al)] _ λe J=>e=.returned _/\wr=J):=(Pw (bV.o.keep (ar.o.trans P.o)) aw _).mono λ_ _ h=>⟨h.1,h.2.symm⟩
     have U:=Hv bV.o (q+al);have au:V _:=Eg bc q al;obtain⟨bR,bz⟩:∃bR,inW bc (q+al)=bR:=⟨_,rfl⟩
     rw[bz]at au;unfold inW at bz;have r:V _:=bz.symm;clear bz;generalize lM bc _=t at ba U r;have aU:=y.o;have b4:=P.o.size;clear y;rcases (by omega:t%16=9\/t=250\/t=251\/t=252\/t=253\/(t%16≠9/\t≠250/\t≠251/\t≠252/\t≠253)) with c|c|c|c|c|c
     case' inl=>have bp:V _:=r.o;rw[hI c]at bp
     case' inr.inl=>have bp:V _:=r.o;rw[hG xaa,hI c]at bp
     case' inr.inr.inl=>have bp:V _:=r.o;rw[hG xaa,hG xaa,hI c]at bp
     case' inr.inr.inr.inl=>have bp:V _:=r.o;rw[hG xaa,hG xaa,hG xaa,hI c]at bp
     case' inr.inr.inr.inr.inl=>have bp:V _:=r.o;rw[hG xaa,hG xaa,hG xaa,hG xaa,hI c]at bp
     case' inr.inr.inr.inr.inr=>have bp:V _:=r.o;rw[hG xaa,hG xaa,hG xaa,hG xaa,hG xaa]at bp;obtain⟨c,c2,c3,c4,c5⟩:=c
     all_goals
      clear r
      go_wp2_with (first
       |(go_at_call 24;refine yai ba.o ?_;rintro _ _ ⟨rfl,rfl⟩)
       |(at_builtin;refine wpList_append_lies _ rfl _ _ 54 rfl ay.heap.size 38 cA (.float .f64 0) 1 8 underlying54 ae af ai ak rfl xab _ _ (l.map (Value.float .f64)) rfl ((kP aU (eL 0 0 _ _)).alloc _) ⟨wr.heap.size,0,none⟩ 1 1 [.float .f64 ?_] rfl rfl ?c1 ?c2 xab ?c3 ?c4 ?c5 _ rfl ?_)
       |(at_builtin;refine wpList_append_lies _ rfl _ _ 54 rfl ay.heap.size 38 cA (.float .f64 0) 1 8 underlying54 ae af ai ak rfl xab _ _ (l.map (Value.float .f64)) rfl (aU.alloc _) ⟨wr.heap.size,0,none⟩ 1 1 [.float .f64 ?_] rfl rfl ?c1 ?c2 xab ?c3 ?c4 ?c5 _ rfl ?_))
      case c1=>exact cell_one_new _ _ _
      case c2=>intro u aI;simp at aI;subst aI;rfl
      case c3=>unfold maxLen;omega
      case c4=>omega
      case c5=>simp;omega
      intro g9 cap9 be bv a6 b9 _
      obtain⟨B,(R1:V _),(R3:V _)⟩:=Hy bv Y.o au.o (by have ab:=congrArg fb bp.o.symm;first|exact ab|exact(ie _ _ _ _).trans ab|(subst c;exact(ie _ _ _ _).trans ab)) (by first|exact iB _ _ _ _|exact qC _|exact AB xab)
      have R2:V _:=jo a6 (λi hi=>(jT aU hi).1) (by first|exact P.o.trans (ez 0 0 _ _)|exact(P.o.trans (ez 0 0 _ _)).trans (eL 0 0 _ _)) yad
      clear bv a6 b9 aU ba P bp au
      go_wp2
      go_roundw;exact⟨al+1,B,by omega,by go_num,by go_num,R1,R3,R2⟩;simp[intOf];omega
    obtain rfl:al=m:=xaa;have aU:=y.o;obtain⟨(an:V _),S,a8⟩:=Y.o;obtain⟨G,cap,rfl,N,aD,ad⟩:=FO.of_own aU (hO H.o) S a8;clear S a8 Y;have s:=kP aj.o P.o;have b4:=(ar.o.trans P.o).size;have Z:V _:=ad;clear y aU;go_wp2_with (first|(at_builtin;refine wpList_append_lies _ rfl _ _ _ rfl _ 54 _ _ 1 _ underlying32 hi bn bQ br rfl xab _ _ _ rfl (s.alloc _) _ 1 1 [hE G al cap] rfl rfl ?c1 ?c2 xab ?c3 ?c4 ?c5 _ rfl ?_))
    case c1=>exact cell_one_new _ _ _
    case c2=>intro u aI;simp at aI;subst aI;rfl
    case c3=>unfold maxLen;omega
    case c4=>omega
    case c5=>simp;omega
    intro g9 cap9 be bv a6 b9 _
    have R1:V (AR be _ _ _ _):=
     AR.step s (po F.o P.o) ⟨_,_,_,_,rfl,aD,Z.o.fs,an.o⟩ (λ_ p aF c=>by
      cases aF
      have:=(jT aj.o (k:=G) c).2
      omega) bv a6 (by rcases b9 with h|h;exact .inl h;exact .inr (by rw[h];simp)) (λj hj=>rfl) o.o
    have R2:V _:=jo a6 (λi hi=>(jT s hi).1) ((ar.o.trans P.o).trans (ez 0 0 _ _)) yad;clear bv a6 b9 s P F aj ar N aD ad Z;go_wp2;go_roundw;exact⟨k+1,q+al,by omega,by omega,by go_num,by go_num,di.o.symm,R1,R2⟩;simp[intOf];omega
  obtain rfl:k=n:=xaa;obtain⟨ag,cap,z,rfl,(R:V _),(R3:V _)⟩:=a2.o.ss;clear a2;go_wp2;go_ret;exact⟨_,_,_,rfl,R.o,R3.o,ar.o⟩
end
section
theorem W0n(s){r}(ai:0<r)(h:r<=9218868437227405312):(FloatKind.f64.format.order (W s r) 0==some .eq)=false:=by
 rw[show FloatKind.f64.format.order _ 0=_ from mR ai h];cases s<;>rfl
theorem Hz(x y w)(ap:x<18446744073709551616)(bS:y<18446744073709551616):
  Calls prog 26 #[.float .f64 x,.float .f64 y] w λe J=>e=.returned (.bool ((fb x:Int)==(fb y:Int)))/\J=w:=by
 obtain⟨s,r,av,rfl⟩:=jB x ap;obtain⟨t,q,ao,rfl⟩:=jB y bS;clear ap bS;by_cases B:r<=9218868437227405312
 ·have Y:=mC (s:=s) B;by_cases U:q<=9218868437227405312
  ·have ab:=mC (s:=t) U;rw[nV B,nV U,Lm av ao];by_cases bz:r=0/\q=0
   ·obtain⟨rfl,rfl⟩:=bz;have a1:FloatKind.f64.format.order (W s 0) 0=some _:=jX;have Z:FloatKind.f64.format.order (W t 0) 0=some _:=jX;have N:=λw=>run_float_arith (P:=prog) w .quo 38 .f64 _ (W s 0) _ mO;have aD:=λw=>run_float_arith (P:=prog) w .quo 38 .f64 _ (W t 0) _ mO;have c1:FloatKind.f64.format.order (W s 9218868437227405312) 0=some _:=mR xaa xaa;have c2:FloatKind.f64.format.order (W t 9218868437227405312) 0=some _:=mR xaa xaa;cases s<;>cases t
    all_goals
     go_enter func26,ntmps26
     go_wp2
     go_ret
     exact⟨rfl,rfl⟩
   have b3:(FloatKind.f64.format.order (W s r) (W t q)==some _)=_:=sC B U
   rw[show decide _=decide (r=q/\s=t) by
    rw[Bool.eq_iff_iff];simp only[decide_eq_true_eq];constructor
    ·rintro⟨a,b|b⟩
     ·exact⟨a,b⟩
     exact absurd ⟨b,by omega⟩ bz
    rintro⟨a,b⟩;exact⟨a,.inl b⟩]at b3
   generalize decide (r=q/\s=t)=D at b3⊢;by_cases cI:r=0
   ·have e1:0<q:=xaa;subst cI;have a1:FloatKind.f64.format.order (W s 0) 0=some _:=jX;have Z:=W0n t e1 U;exact xkc
   have a1:=W0n s (by omega:0<r) B;exact xkc
  have ab:=nj (s:=t) (by omega:9218868437227405312<q) ao;rw[nV B,nu xaa ao,show(((9221120237041090560:Nat)):Int)=9221120237041090560 from rfl,(qb B).1];exact xfe
 have Y:=nj (s:=s) (by omega:9218868437227405312<r) av;by_cases U:q<=9218868437227405312
 ·have ab:=mC (s:=t) U;rw[nV U,nu xaa av,show(((9221120237041090560:Nat)):Int)=9221120237041090560 from rfl,(qb U).2];exact xfe
 have ab:=nj (s:=t) (by omega:9218868437227405312<q) ao;rw[nu xaa av,nu xaa ao,show(((9221120237041090560:Nat):Int)==(9221120237041090560:Nat))=true from beq_self_eq_true _];exact xfe
end
section
attribute[local go_sem] eF eE eD
theorem Ei(w a b n c d xs bc)(ax:FS w 0 w.heap.size a n xs)(bk:FS w 0 w.heap.size b n bc)(ae:gH xs bc)(hn:n<=1000000):
  Calls prog 31 #[.slice a n c,.slice b n d] w λe J=>e=.returned (.bool true)/\Kept 0 0 w J:=by
 have aY:V _:=ax;have aH:V _:=bk;have au:V _:=ae;clear ax bk ae;go_enter func31,ntmps31;go_wp2_with fail;go_loopw [5] (λi W=>∃k:Nat,k<=n/\i=hF k/\V (Kept 0 0 w W)) (λi _=>n-(intOf i).toNat)
 case atStart=>exact⟨0,Nat.zero_le _,rfl,Kept.refl _ _ _⟩
 case round=>
  obtain⟨k,O,rfl,ar⟩:=hrel;by_cases aB:k<n
  ·rcases (FS.keep0 aY.o ar.o).at_ with z|⟨g,off,rfl,_,_,_,a6⟩
   ·omega
   rcases (FS.keep0 aH.o ar.o).at_ with z|⟨aA,H,rfl,_,_,_,h⟩
   ·omega
   have bu:=a6 k aB;have b2:=h k aB
   have aL:V _:=λW=>by
    have:=Hz (xs.getD k 0) (bc.getD k 0) W (fC aY.o.lt k) (fC aH.o.lt k)
    rw[io au.o k,beq_self_eq_true]at this
    exact this
   generalize xs.getD k 0=x at bu aL;generalize bc.getD k 0=y at b2 aL;clear a6 h;go_wp2_with fail;go_region_with (go_at_call 26;refine yai (aL.o _) ?_;rintro e bF ⟨rfl,rfl⟩)
   all_goals
    go_wp2
    go_roundw;exact⟨k+1,by omega,by go_num,Kept.drew ar.o⟩;simp[intOf];omega
  obtain rfl:k=n:=xaa;go_wp2;go_ret;exact⟨rfl,ar.o⟩
theorem A7(w a b n c d xss r)(ax:SS w a n xss)(bk:SS w b n r)(ae:∀k,k<n->gH (xss.getD k []) (r.getD k [])/\(xss.getD k []).length<=1000000)(hn:n<=1000000):
  Calls prog 12 #[.slice a n c,.slice b n d] w λe J=>e=.returned (.bool true)/\Kept 0 0 w J:=by
 have aY:V _:=ax;have aH:V _:=bk;have au:V _:=ae;clear ax bk ae;go_enter func12,ntmps12;go_wp2_with fail;go_loopw [5] (λi W=>∃k:Nat,k<=n/\i=hF k/\V (Kept 0 0 w W)) (λi _=>n-(intOf i).toNat)
 case atStart=>exact⟨0,Nat.zero_le _,rfl,Kept.refl _ _ _⟩
 case round=>
  obtain⟨k,O,rfl,ar⟩:=hrel;by_cases aB:k<n
  ·rcases (SS.keep aY.o ar.o).at_ with z|⟨g,off,rfl,_,a6⟩
   ·omega
   rcases (SS.keep aH.o ar.o).at_ with z|⟨aA,H,rfl,_,h⟩
   ·omega
   obtain⟨p,q,bu,_,ax⟩:=a6 k aB;obtain⟨f,j,b2,_,bk⟩:=h k aB;obtain⟨ae,ah⟩:=au.o k aB;rw[<-jY ae]at b2 bk;have aL:V _:=λW bS=>Ei W p _ _ q j _ _ (FS.keep0 ax bS) (FS.keep0 bk bS) ae ah;generalize (xss.getD k _).length=m at bu b2 aL;clear a6 h ax bk ae ah;go_wp2_with fail;go_region_with (go_at_call 31;refine yai (aL.o _ (eG _)) ?_;rintro e bF ⟨rfl,bW⟩;replace ar:V _:=ar.o.trans ((eG _).trans bW);clear bW)
   all_goals
    go_wp2
    go_roundw;exact⟨k+1,by omega,by go_num,by first|exact ar|exact Kept.drew ar.o⟩;simp[intOf];omega
  obtain rfl:k=n:=xaa;go_wp2;go_ret;exact⟨rfl,ar.o⟩
def flE(env:List (List UInt8×Int)):List Value:=env.flatMap λx=>[.string ⟨x.1.toArray⟩,.int .i64 x.2]
def nmL:List (List UInt8):=[[97],[98,50],[99,95],[100],[101],[103],[104]]
theorem KU(a b):flE (a++b)=flE a++flE b:=by simp[flE]
theorem A8(a):∀k,k<a.length->(flE a)[k*2]? =some (eO (a.getD k ([],0)).1)/\(flE a)[k*2+1]? =some (hF (a.getD k ([],0)).2):=by
 induction a with
 |nil=>intro k O;cases O
 |cons x r al=>
  intro k O;cases k with
  |zero=>exact⟨rfl,rfl⟩
  |succ k=>
   have h:=al k (Nat.lt_of_succ_lt_succ O);have e:flE (x::r)=[.string ⟨x.1.toArray⟩,hF x.2]++flE r:=rfl;rw[e,show(k+1)*2=2+k*2 by omega,yar xac,yar yaf];simpa[show 2+k*2+1-2=k*2+1 by omega] using h
theorem Py:(prog.info? 100).map (λi=>(i.zero,i.size,i.bytes))=some (some (.agg #[.string ⟨#[]⟩,hF 0]),2,24):=by kernel_rfl
theorem mB(w){bA rest o a Q}(H:o.guard=none)(s x)
  (ax:o.op=.call {callee:=.builtin .append,args:=#[s,x],argTypes:=#[98,98]})
  (I) (u) (env) (ae:a.eval s=u) (aU:w.ownsRow I 100 2 u env.length (flE env))
  (b) (v) (ap:a.eval x=hE b 1 1) (ai:w.cell? ⟨b,0,none⟩=some (.string ⟨v.1.toArray⟩)) (B:w.cell? ⟨b,1,none⟩=some (hF v.2))
  (l:env.length+1<=1000) (af:I<=w.heap.size)
  (h:∀g cap n J,n=(env++[v]).length->J.ownsRow I 100 2 (hE g n cap) n (flE (env++[v]))->Chg (λb=>u.ownBlock=some b) w J->(u.ownBlock=some g\/g=w.heap.size)->wpList prog bA Q rest (a.put o.dst (hE g n cap)) J):wpList prog bA Q (o::rest) a w:=by
 obtain⟨bC,hi,bn,bQ,br⟩:=info_parts Py;refine wpList_append_lies w H s x 98 ax I 100 bC _ 2 24 underlying98 hi bn bQ br rfl xab u env.length _ ae aU ⟨b,0,none⟩ 1 1 [.string ⟨v.1.toArray⟩,hF v.2] ap rfl ?_ ?_ xab (by unfold maxLen;omega) xaa af _ rfl ?_
 ·intro j u aI;match j,aI with
  |0,aI=>cases aI;exact ai
  |1,aI=>cases aI;exact B
 ·intro u aI;simp at aI;rcases aI with rfl|rfl<;>rfl
 intro g cap J B U h3 _;have e:env.length+1=(env++[v]).length:=by rw[yak];rfl
 rw[e]at B⊢;refine h g cap _ J rfl ?_ (gX U) h3;rw[KU];exact B
structure Sw(w:World)(P n cap T:Nat)(a:Option Addr)(bs:List Int)(i:Nat)(env:List (List UInt8×Int))(u:Value)(W:World):Prop where
 rd:RdF W P a n cap i bs
 own:W.ownsRow w.heap.size 100 2 u env.length (flE env)
 tb:∀m,m<7->W.cell? ⟨T,m,none⟩=some (.string ⟨(nmL.getD m []).toArray⟩)
 tl:T<W.heap.size
 wl:w.heap.size<=T
 p0:P<w.heap.size
 nt:u.ownBlock≠some T
 kp:Kept P (P+1) w W
variable{w W W':World}{P n cap T i j:Nat}{a:Option Addr}{bs:List Int}{env:List (List UInt8×Int)}{u:Value}
theorem Sw.step(h:Sw w P n cap T a bs i env u W)(r:RdF W' P a n cap j bs)(k:Kept P (P+1) W W'):Sw w P n cap T a bs j env u W':=
 have aF:=h.p0
 have X:=h.wl
 ⟨r,fY h.own k λ_ e=>.inr (hO ((eI h.own e).1)),λm aw=>(k.cell (p:=⟨T,m,none⟩) h.tl (by show ¬(P<=T/\T<P+1);omega)).trans (h.tb m aw),yaj h.tl k.size,X,aF,h.nt,h.kp.trans k⟩
theorem Sw.keep0(h:Sw w P n cap T a bs i env u W)(k:Kept 0 0 W W'):Sw w P n cap T a bs i env u W':=h.step (h.rd.keep0 k) (ft k)
theorem Sw.next(h:V (Sw w P n cap T a bs i env u W)):Calls prog 32 #[hD P] W λe W'=>e=.returned (hF (nv bs i:Int))/\Sw w P n cap T a bs (ni bs i) env u W':=
 (jg W P a n cap i bs h.o.rd).mono λ_ _ ⟨e,r,k,_⟩=>⟨e,h.o.step r k⟩
theorem Sw.form(h:Sw w P n cap T a bs i env u W):∃aE cE,u=.slice aE env.length cE:=by
 rcases h.own.2 with⟨e,bg⟩|⟨g,c,_,e,_⟩
 ·exact⟨none,0,by rw[e,bg]⟩
 exact⟨_,c,e⟩
theorem Sw.call{aE nE cE f m xs s}(h:V (Sw w P n cap T a bs i env (.slice aE nE cE) W))(ah:nE<=100)(G:Dr env bs i f xs m s j):
  Calls prog f (xs ⟨W,P,n,cap,nE,cE,a,aE⟩) W λe W'=>e=.returned (.string s)/\Sw w P n cap T a bs j env (.slice aE nE cE) W'/\Kept P (P+1) W W':=by
 have hn:=jS h.o.own;subst hn;refine(G.2 ⟨W,P,n,cap,env.length,cE,a,aE⟩ W ⟨h.o.rd,⟨rfl,ah,λk O=>?_⟩,Kept.refl _ _ _⟩).mono λ_ _ ⟨e,ae⟩=>⟨e,h.o.step ae.rd ae.kp,ae.kp⟩
 replace O:k<env.length:=O;obtain⟨g,c,e,B,U⟩:=h.o.own.form xaa;injection e with af;have q:=λm v z=>h.o.own.cells (g:=g) (hU af) m v z;simp only[j9,Nat.zero_add]at q;have aF:=h.o.p0;exact⟨g,af,by show P<g;omega,U,q _ _ (A8 env k O).1,q _ _ (A8 env k O).2⟩
theorem Sw.last{es v}(h:Sw w P n cap T a bs i env u W)(y:env=es++[v]):∃g cE,u=hE g env.length cE/\W.cell? ⟨g,es.length*2,none⟩=some (.string ⟨v.1.toArray⟩)/\W.cell? ⟨g,es.length*2+1,none⟩=some (hF v.2):=by
 have ah:env.length=es.length+1:=by rw[y,yak];rfl
 obtain⟨g,c,e,_,_⟩:=h.own.form xaa;have q:=λm v z=>h.own.cells (g:=g) (hU e) m v z;simp only[j9,Nat.zero_add]at q;have z:=A8 env es.length xaa;have a0:env.getD es.length ([],0)=v:=by simp[y,List.getD_eq_getElem?_getD]
 rw[a0]at z;exact⟨g,c,e,q _ _ z.1,q _ _ z.2⟩
theorem Sw.app(h:Sw w P n cap T a bs i env u W)(v){g c m}(aw:m=(env++[v]).length)(o:W'.ownsRow w.heap.size 100 2 (hE g m c) m (flE (env++[v])))(k:Chg (λb=>u.ownBlock=some b) W W')(aQ:u.ownBlock=some g\/g=W.heap.size):Sw w P n cap T a bs i (env++[v]) (hE g m c) W':=by
 have aF:=h.p0;subst aw;have al:Kept w.heap.size W.heap.size W W':=⟨k.os,k.tape,k.output,k.size,λb hb hn=>k.block b hb λe=>hn (eI h.own e)⟩
 refine⟨h.rd.keep al (.inl aF),o,λm aw=>(k.cell (p:=⟨T,m,none⟩) h.tl h.nt).trans (h.tb m aw),yaj h.tl k.size,h.wl,aF,?_,h.kp.new al yad⟩;rcases aQ with e|e
 ·show some g≠some T;rw[<-e];exact h.nt
 have:=h.tl;simp only[Value.ownBlock];intro c;injection c;omega
end
section
structure TxA(w:World)(a:Option Addr)(n:Nat)(t:List UInt8):Prop where
 len:t.length=n
 at_:0<n->∃g off,a=some ⟨g,off,none⟩/\TxS w g off n t
theorem TxA.keep{w J a n t}(h:TxA w a n t)(k:Kept 0 0 w J):TxA J a n t:=
 ⟨h.len,λhn=>by obtain⟨g,off,e,B⟩:=h.at_ hn;exact⟨g,_,e,B.keep k⟩⟩
end
section
attribute[local go_sem] eF eE eD
variable{l:List (List UInt8)}{g:ByteArray}{L cj P n cap:Nat}{w:World}{a:Option Addr}
variable{bs:List Int}
theorem Oh{B:Type}{G:Nat->B->Prop}{R:Nat->B->B->Prop}(h:∀k a,G k a->∃b,G (k+1) b/\R k a b){br}(ai:G 0 br):∃f:Nat->B,f 0=br/\∀k,G k (f k)/\R k (f k) (f (k+1)):=by
 let F:(k:Nat)->{a//G k a}:=λk=>Nat.rec ⟨_,ai⟩ (λk x=>⟨_,(Classical.choose_spec (h k _ x.2)).1⟩) k
 exact⟨_,rfl,λk=>⟨(F k).2,(Classical.choose_spec (h k _ (F k).2)).2⟩⟩
structure Ss where
 e:List (List UInt8×Int)
 o:ByteArray
 i:Nat
def Gs(L Z:Nat)(s:Ss):Prop:=s.e.length=L/\(∀x∈s.e,x.1.length<=5)/\s.o.size<=Z
def nmB(k:Nat):List UInt8:=nmL.getD k []
theorem xQ(k):(nmB k).length<=5:=by
 match k with
 |0|1|2|3|4|5|6=>decide
 |k+7=>exact Nat.zero_le _
theorem nv3(i):1<=1+(nv bs i:Int)%3/\1+(nv bs i:Int)%3<=3:=xaa
theorem Gs.put{L cj z s}(h:Gs L cj s)(k q x j)(ap:x.size<=z):Gs (L+1) (cj+z) ⟨s.e++[(nmB k,q)],s.o++x,j⟩:=
 ⟨by rw[yak,h.1];rfl,λy bS=>by
  rcases List.mem_append.1 bS with c|c
  ·exact h.2.1 y c
  ·rw[List.mem_singleton.1 c];exact xQ k,by have:=h.2.2;rw[yaq];omega⟩
def ex3(q:Int)(d:Int):Xd->Array Value:=λX=>#[.slice X.aE X.nE X.cE,.int .i64 q,.int .i64 d,.pointer (some ⟨X.P,0,none⟩)]
def inX(bs:List Int)(gap:ByteArray)(k:Nat)(s:Ss):ByteArray:=⟨#[105,110,32]⟩++⟨(nmB k).toArray⟩++⟨#[32,58,32]⟩++⟨(gY (1+nv bs s.i%3)).toArray⟩++⟨#[59]⟩++gap
def R1(bs:List Int)(gap:ByteArray)(k:Nat)(s s':Ss):Prop:=s'=⟨s.e++[(nmB k,1+(nv bs s.i:Int)%3)],s.o++inX bs gap k s,ni bs s.i⟩
def R2(bs:List Int)(gap:ByteArray)(n k:Nat)(s s':Ss):Prop:=∃x j,Dr s.e bs (ni bs s.i) 64 (ex3 (1+(nv bs s.i:Int)%3) 3) 64000 x j/\s'=⟨s.e++[(nmB (n+k),1+(nv bs s.i:Int)%3)],s.o++(⟨#[108,101,116,32]⟩++⟨(nmB (n+k)).toArray⟩++⟨#[32,61,32]⟩++x++⟨#[59]⟩++gap),j⟩
def R3(bs:List Int)(gap:ByteArray)(_:Nat)(s s':Ss):Prop:=∃x j,Dr s.e bs (ni bs s.i) 64 (ex3 (1+(nv bs s.i:Int)%3) 4) 256000 x j/\s'=⟨s.e,s.o++(⟨#[111,117,116,32]⟩++x++⟨#[59]⟩++gap),j⟩
theorem PZ(aQ:g.size<=8){s}(h:Gs L cj s):∃f:Nat->Ss,f 0=s/\∀k,Gs (L+k) (cj+k*100) (f k)/\R1 bs g k (f k) (f (k+1)):=
 Oh (G:=λk=>Gs (L+k) (cj+k*100)) (λk a bl=>by
  have:=(bl.put k (1+(nv bs a.i:Int)%3) (inX bs g k a) (ni bs a.i) (z:=100) (by
   have:=xQ k
   have:=jR (1+nv bs a.i%3)
   simp only[inX,yaq,gu,yap,List.length_nil]
   omega))
  rw[show L+k+1=L+(k+1) by omega,show cj+k*100+100=cj+(k+1)*100 by omega]at this
  exact⟨_,this,rfl⟩) h
theorem P0(hb:∀i,nv bs i<256)(aQ:g.size<=8){s}(n)(h:Gs L cj s):∃f:Nat->Ss,f 0=s/\∀k,Gs (L+k) (cj+k*64100) (f k)/\R2 bs g n k (f k) (f (k+1)):=
 Oh (G:=λk=>Gs (L+k) (cj+k*64100)) (λk a bl=>by
  obtain⟨x,j,G⟩:=Gg bl.2.1 hb 3 xab _ (nv3 (bs:=bs) a.i) (ni bs a.i)
  have ap:=G.1
  have:=(bl.put (n+k) (1+(nv bs a.i:Int)%3) (⟨#[108,101,116,32]⟩++⟨(nmB (n+k)).toArray⟩++⟨#[32,61,32]⟩++x++⟨#[59]⟩++g) j (z:=64100) (by
   have:=xQ (n+k)
   simp only[yaq,gu,yap,List.length_nil]
   omega))
  rw[show L+k+1=L+(k+1) by omega,show cj+k*64100+64100=cj+(k+1)*64100 by omega]at this
  exact⟨_,this,x,j,G,rfl⟩) h
theorem P1(hb:∀i,nv bs i<256)(aQ:g.size<=8){s}(h:Gs L cj s):∃f:Nat->Ss,f 0=s/\∀k,Gs L (cj+k*256100) (f k)/\R3 bs g k (f k) (f (k+1)):=
 Oh (G:=λk=>Gs L (cj+k*256100)) (λk a bl=>by
  obtain⟨x,j,G⟩:=Gg bl.2.1 hb 4 xab _ (nv3 (bs:=bs) a.i) (ni bs a.i)
  have ap:=G.1
  exact⟨⟨_,_,j⟩,⟨bl.1,bl.2.1,by
   have:=bl.2.2
   simp only[yaq,gu,yap,List.length_nil]
   omega⟩,x,j,G,rfl⟩) h
variable{bs:List Int}
def pw(l:List (List UInt8)):Array Value:=(l.map λx=>Value.string ⟨x.toArray⟩).toArray
def gapL:List (List UInt8):=[[32],[10],[32,32,35,32,61,32,59,10]]
def bodL:List (List UInt8):=[[112,42,112,32,43,32,49],[101,120,112,40,45,112,41],[112,32,47,32,40,49,32,43,32,112,42,112,41],[109,97,120,40,112,44,32,45,112,41],[103,114,97,100,40,115,117,109,40,112,42,112,42,112,41,44,32,112,41]]
theorem rE{W p}(k:Kept P (P+1) (w.alloc (.cells (pw l) p)) W)(aF:P<w.heap.size){m}(aw:m<l.length):W.cell? ⟨w.heap.size,m,none⟩=some (.string ⟨(l.getD m []).toArray⟩):=by
 rw[k.cell (p:=⟨w.heap.size,m,none⟩) xac (by show ¬(P<=w.heap.size/\w.heap.size<P+1);omega),yau];simp[pw,List.getD_eq_getElem?_getD,List.getElem?_eq_getElem aw]
theorem H4{z}(h:∀x∈l,x.length<=z)(m):(⟨(l.getD m []).toArray⟩:ByteArray).size<=z:=by
 rw[gu,yah];cases e:l[m]? with
 |none=>exact Nat.zero_le _
 |some x=>exact h x (List.mem_of_getElem? e)
def SrO(w:World)(P n cap:Nat)(a:Option Addr)(bs:List Int)(j:Nat)(t:List UInt8)(e:Ending)(w':World):Prop:=∃g c,e=.returned (.slice (some ⟨g,0,none⟩) t.length c)/\t.length<=c/\YS w' (some ⟨g,0,none⟩) t.length (il t)/\RdF w' P a n cap j bs/\Kept P (P+1) w w'
theorem Sw.start{W i env u}(aa:RdF W P a n cap i bs)(own:W.ownsRow w.heap.size 100 2 u env.length (flE env))(K:Kept P (P+1) w W)(bi:P<w.heap.size):V (Sw w P n cap W.heap.size a bs i env u (W.alloc (.cells (pw nmL) 9))):=
 have k:=ez 0 0 W (.cells (pw nmL) 9)
 ⟨aa.keep0 k,eW own k,λ_ aw=>rE (l:=nmL) (Kept.refl P _ _) (yaj bi K.size) aw,by simp,K.size,bi,λe=>hO ((eI own e).2),K.trans (ft k)⟩
def rpX(gap:ByteArray)(c:Nat)(nl:List UInt8)(x:ByteArray):ByteArray:=⟨#[114,101,112,101,97,116,32]⟩++⟨(gY (c/5%4)).toArray⟩++⟨#[32]⟩++⟨nl.toArray⟩++⟨#[32,61,32]⟩++x++⟨#[59]⟩++gap
def hd0(body gap:ByteArray):ByteArray:=⟨#[]⟩++(⟨#[100,101,102,32,102,40,112,41,32,61,32]⟩++body++⟨#[59]⟩++gap)
theorem Ej(W)(bv:List UInt8):(convert 9 22 (.string ⟨bv.toArray⟩)).run prog W=.ok (hE W.heap.size bv.length (grownCap W bv.length 0 5)) (Lib.bytesWorld W 5 ⟨bv.toArray⟩):=
 Lib.run_convert_string_bytes (P:=prog) W 9 22 5 ⟨bv.toArray⟩ underlying9 underlying22 underlying5
theorem WkM{P:Prop}(h:P:=by
  try dsimp only at e4
  go_upto_region 31 with (go_at_call 32;refine yai (Sw.next au) ?_;rintro e bv ⟨rfl,aU⟩;clear au;have au:V _:=aU;clear aU);go_wp2_with fail;go_loopw [6,19] (λo t W=>∃k:Nat,k<=m3/\t=hF k/\o=.string (f3 k).o/\V (Sw w P n cap T a bs (f3 k).i (f3 k).e (.slice aE (f2 mm).e.length cE) W)) (λ_ t _=>m3-(intOf t).toNat)
  case atStart=>
   have af:=H3.o.1;exact⟨0,Nat.zero_le _,rfl,by rw[af],hR af au.o⟩
  case round=>
   obtain⟨k,O,rfl,rfl,aU⟩:=hrel;clear au;by_cases aB:k<m3
   ·have bl:=(H3.o.2 k).1;have i:=(H3.o.2 (k+1)).1;obtain⟨x,v,aY,av⟩:=(H3.o.2 k).2
    have z:((f3 k).o++(⟨#[111,117,116,32]⟩++x++⟨#[59]⟩++g)).size<=1000000:=by
     exact xht
    have aS:(⟨#[111,117,116,32]⟩++x++⟨#[59]⟩++g:ByteArray).size<=1000000:=by rw[yaq]at z;omega
    have cd:V _:=av;have f:V _:=aU.o;clear bl i av aU;generalize f3 k=s at*;have ap:=hb s.i;repeat (rw[yaq]at z;refine sz2 z ?_;clear z;intro _ z)
    repeat (rw[yaq]at aS;refine sz2 aS ?_;clear aS;intro _ aS)
    go_wp2_with (first
     |(go_at_call 32;refine yai (Sw.next f) ?_;rintro e bn ⟨rfl,aU⟩;clear f;have f:V _:=aU;clear aU)
     |(go_at_call 64;have al:=Sw.call f HL.o aY;simp only[ex3]at al;(with_reducible refine yai al ?_);clear al;rintro e aG ⟨rfl,aU,-⟩;clear f;have f:V _:=aU;clear aU))
    go_roundw
    case rel=>
     refine⟨k+1,by omega,by go_num,?_,?_⟩
     ·rw[cd.o]
     rw[cd.o];exact f.o
    case measure=>simp[intOf];omega
   have bZ:k=m3:=xaa;have au:V _:=aU.o;clear aU O aB;rw[bZ]at au⊢;clear bZ k;subst hj;have K:¬((m3:Int)<m3):=xaa;have G:=Ej wr t;have bV:V _:=qL wr 5 t;have C:V _:=nf wr 5 ⟨t.toArray⟩;generalize Lib.bytesWorld wr 5 ⟨t.toArray⟩=bF at G bV C;have j:V _:=grownCap_ge wr t.length 0 5;generalize grownCap wr t.length 0 5=bT at G j;rcases ht.o with⟨a6,bh⟩|⟨a6,bh⟩
   ·rw[bh]at G;have bg:¬(4000<((f3 m3).o.size:Int)):=xaa;clear bh;go_wp2;go_ret;exact⟨_,bT,rfl,j.o,bV.o,au.o.rd.keep0 C.o,au.o.kp.trans (ft C.o)⟩
   rw[bh]at G;have bg:4000<((f3 m3).o.size:Int):=xaa;clear bh;go_wp2;go_ret;exact⟨_,bT,rfl,j.o,bV.o,au.o.rd.keep0 C.o,au.o.kp.trans (ft C.o)⟩):P:=h
theorem WkL{P:Prop}(h:P:=by
  have bw:V _:=jg _ _ _ _ _ _ _ HR.o;go_upto_region 11 with (go_at_call 32;refine yai bw.o ?_;rintro e bv ⟨rfl,C,cb,-⟩;have au:V _:=Sw.start C (fY HO.o cb λ_ e=>.inr (hO ((eI HO.o e).1))) (HK.o.trans cb) hP;clear C cb);clear bw HO HR HK;go_upto_region 12 with fail;change Code.wp _ _ _ _ (bv.alloc (.cells (pw nmL) 9));generalize bv.alloc (.cells (pw nmL) 9)=bN at*;generalize bv.heap.size=T at*;go_wp2_with fail;go_loopw [5,6,11] (λu o t W=>∃k:Nat,k<=nn/\t=hF k/\o=.string (f1 k).o/\V (Sw w P n cap T a bs (f1 k).i (f1 k).e u W)) (λ_ _ t _=>nn-(intOf t).toNat)
  case atStart=>
   have e:=HE.o;have af:=H1.o.1;subst e;exact⟨0,Nat.zero_le _,rfl,by rw[af],hR af au.o⟩
  case round=>
   obtain⟨k,O,rfl,rfl,aU⟩:=hrel;clear au HE;by_cases aB:k<nn
   ·have bl:=(H1.o.2 k).1;have i:=(H1.o.2 (k+1)).1;have av:=(H1.o.2 k).2
    have z:((f1 k).o++inX bs g k (f1 k)).size<=1000000:=by
     exact xht
    have aS:(inX bs g k (f1 k)).size<=1000000:=by rw[yaq]at z;omega
    have bk:V _:=bl;have cd:V _:=av;have f:V _:=aU.o;clear bl i av aU;unfold R1 inX at cd;unfold inX at z aS;generalize f1 k=s at*;have ap:=hb s.i
    have HD:V (∀W:World,Calls prog 63 #[hF (1+(nv bs s.i:Int)%3)] W λe J=>e=.returned (eO (gY (1+nv bs s.i%3)))/\J=W):=λW=>by
     rw[show(1:Int)+(nv bs s.i:Int)%3=((1+nv bs s.i%3:Nat):Int) by omega]
     exact yC _ _ yad xaa W
    unfold eO at HD;generalize (⟨(gY (1+nv bs s.i%3)).toArray⟩:ByteArray)=G at HD cd z aS;go_upto_region 16 with (go_at_call 32;refine yai (Sw.next f) ?_;rintro e bn ⟨rfl,aU⟩;clear f;have f:V _:=aU;have ae:=aU.tb k xaa;clear aU);change bn.cell? ⟨T,k,none⟩=some (.string ⟨(nmB k).toArray⟩)at ae;generalize N:(⟨(nmB k).toArray⟩:ByteArray)=j at ae cd z aS;repeat (rw[yaq]at z;refine sz2 z ?_;clear z;intro _ z)
    repeat (rw[yaq]at aS;refine sz2 aS ?_;clear aS;intro _ aS)
    have bP:(k:Int)<7:=xaa;go_quiet ((go_at_call 63;exact Calls.quiet_of_same (HD.o _)))
    have bp:V (∀(m:Nat) (o:Obj),Sw w P n cap T a bs (ni bs s.i) s.e u5 ((bn.alloc o).drewN m)):=λm o=>(f.o.keep0 (ez 0 0 _ o)).keep0 (eL 0 0 _ m);have bg:V (∀m,((bn.alloc (.cells #[.string j,hF (1+(nv bs s.i:Int)%3)] 100)).drewN m).cell? ⟨bn.heap.size,0,none⟩=some (.string ⟨(nmB k).toArray⟩)/\((bn.alloc (.cells #[.string j,hF (1+(nv bs s.i:Int)%3)] 100)).drewN m).cell? ⟨bn.heap.size,1,none⟩=some (hF (1+(nv bs s.i:Int)%3))):=λm=>by rw[N];exact⟨by simp,by simp⟩
    have HL:V (s.e.length+1<=1000):=by have:=bk.o.1;show _<=_;omega
    go_wp2_with (at_builtin;refine mB _ rfl _ _ rfl w.heap.size u5 s.e rfl (bp.o _ _).own bn.heap.size (nmB k,1+(nv bs s.i:Int)%3) rfl (bg.o _).1 (bg.o _).2 HL.o (yan f.o.wl (Nat.le_of_lt (bp.o _ _).tl)) ?_;intro g9 X n9 be bO r H b9;have F:V _:=(bp.o _ _).app _ bO r H b9;clear bO r H b9);exact xhi
   have bZ:k=nn:=xaa;have au:V _:=aU.o;clear aU O aB;rw[bZ]at au⊢;clear bZ k;go_upto_region 19 with (go_at_call 32;refine yai (Sw.next au) ?_;rintro e bv ⟨rfl,aU⟩;clear au;have au:V _:=aU;clear aU);rw[em];go_wp2_with fail;go_loopw [5,6,14] (λu o t W=>∃k:Nat,k<=mm/\t=hF k/\o=.string (f2 k).o/\V (Sw w P n cap T a bs (f2 k).i (f2 k).e u W)) (λ_ _ t _=>mm-(intOf t).toNat)
   case atStart=>
    have af:=H2.o.1;exact⟨0,Nat.zero_le _,rfl,by rw[af],hR af au.o⟩
   case round=>
    obtain⟨k,O,rfl,rfl,aU⟩:=hrel;clear au;by_cases aB:k<mm
    ·have bl:=(H2.o.2 k).1;have i:=(H2.o.2 (k+1)).1;obtain⟨x,v,aY,av⟩:=(H2.o.2 k).2
     have z:((f2 k).o++(⟨#[108,101,116,32]⟩++⟨(nmB (nn+k)).toArray⟩++⟨#[32,61,32]⟩++x++⟨#[59]⟩++g)).size<=1000000:=by
      exact xht
     have aS:(⟨#[108,101,116,32]⟩++⟨(nmB (nn+k)).toArray⟩++⟨#[32,61,32]⟩++x++⟨#[59]⟩++g:ByteArray).size<=1000000:=by rw[yaq]at z;omega
     have bk:V _:=bl;have cd:V _:=av;have f:V _:=aU.o;obtain⟨aE,cE,aI⟩:=aU.o.form;subst aI;clear bl i av aU;generalize f2 k=s at*;have ap:=hb s.i;have ak:(nn:Int)+k<7:=xaa;have K:(k:Int)<mm:=xaa;have HL:V (s.e.length<=100):=by have:=bk.o.1;show _<=_;omega
     go_upto_region 24 with (first
      |(go_at_call 32;refine yai (Sw.next f) ?_;rintro e bn ⟨rfl,aU⟩;clear f;have f:V _:=aU;clear aU)
      |(go_at_call 64;have al:=Sw.call f HL.o aY;simp only[ex3]at al;(with_reducible refine yai al ?_);clear al;rintro e aG ⟨rfl,aU,-⟩;clear f;have f:V _:=aU;have ae:=aU.tb (nn+k) xaa;clear aU))
     change aG.cell? ⟨T,nn+k,none⟩=some (.string ⟨(nmB (nn+k)).toArray⟩)at ae;generalize N:(⟨(nmB (nn+k)).toArray⟩:ByteArray)=j at ae cd z aS;repeat (rw[yaq]at z;refine sz2 z ?_;clear z;intro _ z)
     repeat (rw[yaq]at aS;refine sz2 aS ?_;clear aS;intro _ aS)
     have bp:V (∀(o:Obj),Sw w P n cap T a bs v s.e _ (aG.alloc o)):=λo=>f.o.keep0 (ez 0 0 _ o);have bg:V ((aG.alloc (.cells #[.string j,hF (1+(nv bs s.i:Int)%3)] 100)).cell? ⟨aG.heap.size,0,none⟩=some (.string ⟨(nmB (nn+k)).toArray⟩)/\(aG.alloc (.cells #[.string j,hF (1+(nv bs s.i:Int)%3)] 100)).cell? ⟨aG.heap.size,1,none⟩=some (hF (1+(nv bs s.i:Int)%3))):=by rw[N];exact⟨by simp,by simp⟩
     have Q:V (s.e.length+1<=1000):=by have:=bk.o.1;show _<=_;omega
     go_wp2_with (at_builtin;refine mB _ rfl _ _ rfl w.heap.size (.slice aE s.e.length cE) s.e rfl (bp.o _).own aG.heap.size (nmB (nn+k),1+(nv bs s.i:Int)%3) rfl bg.o.1 bg.o.2 Q.o (yan f.o.wl (Nat.le_of_lt (bp.o _).tl)) ?_;intro g9 X n9 be bO r H b9;have F:V _:=(bp.o _).app _ bO r H b9;clear bO r H b9);exact xhi
    have bZ:k=mm:=xaa;have au:V _:=aU.o;clear aU O aB;rw[bZ]at au⊢;clear bZ k;have K:¬((mm:Int)<mm):=xaa;have R:V ((f2 mm).o.size<=200000):=yan (H2.o.2 mm).1.2.2 xaa;have HL:V ((f2 mm).e.length<=100):=by have:=(H2.o.2 mm).1.1;show _<=_;omega
    rcases h3.o with⟨cG,aj⟩|⟨bQ,cG,es,p,q,x,v,y,aY,ab,aj⟩
    ·rcases (by omega:mm=0\/(0<mm/\¬(c:Int)%5=1)) with bQ|⟨bQ,U⟩
     ·have c6:¬(0<(mm:Int)):=xaa;clear bQ cG;exact xjb
     have c6:0<(mm:Int):=xaa;exact xjb
    have c6:0<(mm:Int):=xaa;obtain⟨S,cE,aI,bd,aR⟩:=au.o.last y;subst aI;have aa:((f2 mm).e.length:Int)-1=(es.length:Int):=by rw[y,yak];simp
    have Z:(es.length:Int)<((f2 mm).e.length:Int):=xaa;clear y;have Y:=HL.o;go_upto_region 28 with fail;have a2:V _:=au.o.keep0 (ez 0 0 wr (.cells #[.string ⟨p.toArray⟩,hF q] 100))
    have ba:V (∀W',Kept P (P+1) (wr.alloc (.cells #[.string ⟨p.toArray⟩,hF q] 100)) W'->W'.cell? ⟨wr.heap.size,0,none⟩=some (.string ⟨p.toArray⟩)):=λW' k=>by
     have B:=au.o.rd.lt
     rw[k.cell (p:=⟨wr.heap.size,0,none⟩) xac (by show ¬(P<=wr.heap.size/\wr.heap.size<P+1);omega)]
     simp
    have z:((f2 mm).o++rpX g c p x).size<=1000000:=by have:=R.o;rw[yaq];omega
    have aS:(rpX g c p x).size<=1000000:=xaa
    have HD:V (∀W:World,Calls prog 63 #[hF ((c:Int)/5%4)] W λe J=>e=.returned (eO (gY (c/5%4)))/\J=W):=λW=>by
     rw[show(c:Int)/5%4=((c/5%4:Nat):Int) by omega]
     exact yC _ _ yad xaa W
    unfold rpX at z aS aj;unfold eO at HD;generalize (⟨(gY (c/5%4)).toArray⟩:ByteArray)=G at HD aj z aS;generalize (⟨p.toArray⟩:ByteArray)=j at ba a2 aj z aS⊢;go_upto_region 29 with (go_at_call 64;have al:=Sw.call a2 HL.o aY;simp only[ex3]at al;(with_reducible refine yai al ?_);clear al;rintro e aG ⟨rfl,aU,I⟩;have aV:=ba.o aG I;clear au a2;have au:V _:=aU;clear aU I);repeat (rw[yaq]at z;refine sz2 z ?_;clear z;intro _ z)
    repeat (rw[yaq]at aS;refine sz2 aS ?_;clear aS;intro _ aS)
    go_quiet ((go_at_call 63;exact Calls.quiet_of_same (HD.o _)))
    go_upto_region 30 with fail;subst aj;replace au:V _:=au.o.keep0 (eL 0 0 aG nq);(try unfold hE at au);(try unfold hE);generalize some (⟨S,0,none⟩:Addr)=aE at au⊢;exact WkM):P:=h
theorem P2(hb:∀i,nv bs i<256){i o c:Nat}(ak:nv bs (ni bs i)=c)(N:o<3)(aV:(nv bs i:Int)%3=(o:Int))(u:g.size<=8)(y:⟨(gapL.getD o []).toArray⟩=g)
  {aj}{cd:Nat} (cp:(c:Int)/2%5=(cd:Int)) (s:cd<5) (K:⟨(bodL.getD cd []).toArray⟩=aj) (B:aj.size<=30)
  {aW:Ss} (ai:((c:Int)%2=1/\V (aW=⟨[([102],0)],hd0 aj g,ni bs (ni bs i)⟩))\/((c:Int)%2=0/\V (aW=⟨[],⟨#[]⟩,ni bs (ni bs i)⟩)))
  {f1:Nat->Ss}{f G} (H1:V (f1 0=⟨aW.e,aW.o,ni bs aW.i⟩/\∀k,Gs (f+k) (G+k*100) (f1 k)/\R1 bs g k (f1 k) (f1 (k+1)))) (J:f<=1) (Y:G<=1000)
  {nn:Nat} (ad:1+(nv bs (ni bs (ni bs i)):Int)%3=(nn:Int)) (_hn3:nn<=3)
  {f2:Nat->Ss}{L2 O} (H2:V (f2 0=⟨(f1 nn).e,(f1 nn).o,ni bs (f1 nn).i⟩/\∀k,Gs (L2+k) (O+k*64100) (f2 k)/\R2 bs g nn k (f2 k) (f2 (k+1)))) (aw:L2<=4) (Z:O<=2000)
  {mm:Nat} (em:(nv bs (f1 nn).i:Int)%4=(mm:Int)) (_hm3:mm<=3)
  {bA} (h3:V (((mm=0\/¬(c:Int)%5=1)/\bA=f2 mm)\/(0<mm/\(c:Int)%5=1/\∃es p q x v,(f2 mm).e=es++[(p,q)]/\Dr (f2 mm).e bs (f2 mm).i 64 (ex3 q 2) 16000 x v/\(rpX g c p x).size<=100000/\bA=⟨(f2 mm).e,(f2 mm).o++rpX g c p x,v⟩)))
  {f3:Nat->Ss}{h Q} (H3:V (f3 0=⟨bA.e,bA.o,ni bs bA.i⟩/\∀k,Gs h (Q+k*256100) (f3 k)/\R3 bs g k (f3 k) (f3 (k+1)))) (_hL3:h<=10) (aa:Q<=220000)
  {m3:Nat} (e4:1+(nv bs bA.i:Int)%3=(m3:Int)) (R:m3<=3)
  {t}{j} (hj:j=(f3 m3).i) (ht:V (((f3 m3).o.size<=4000/\⟨t.toArray⟩=(f3 m3).o)\/(4000<(f3 m3).o.size/\⟨t.toArray⟩=(f3 m3).o.extract 0 4000))) (C:RdF w P a n cap i bs):Calls prog 35 #[hD P] w (SrO w P n cap a bs j t):=by
 have hP:=C.lt;have ae:(c:Int)<256:=hO (hb (ni bs i))
 have au:V _:=C;clear C;go_enter func35,ntmps35;go_upto_region 2 with fail;change Code.wp _ _ _ _ (w.alloc (.cells (pw gapL) 9));have a6:V _:=au.o.keep0 (ez 0 0 w (.cells (pw gapL) 9));have bw:V _:=jg _ _ _ _ _ _ _ a6.o;have ba:V (∀W,Kept P (P+1) (w.alloc (.cells (pw gapL) 9)) W->_):=λW k=>rE (l:=gapL) (m:=o) k hP N;have HK:V _:=ez P (P+1) w (.cells (pw gapL) 9);clear au a6;generalize w.alloc (.cells (pw gapL) 9)=ay at*;rw[y]at ba;clear y;go_upto_region 5 with (go_at_call 32;refine yai bw.o ?_;rintro e W2 ⟨rfl,C,an,-⟩;have aQ:=ba.o W2 an;have bN:V _:=HK.o.trans an;have S:V _:=jg _ _ _ _ _ _ _ C;clear C an);clear aQ ba bw HK;rw[ak]at S;rcases ai with⟨c2,HE⟩|⟨c2,HE⟩
 ·go_upto_region 7 with (go_at_call 32;refine yai S.o ?_;rintro e aF ⟨rfl,(bR:V _),aJ,-⟩;have bX:V _:=bN.o.trans aJ;have U:=bR.o.lt;clear aJ);clear S bN;go_upto_region 8 with fail;change Code.wp _ _ _ _ (aF.alloc (.cells (pw bodL) 9));have aH:=rE (l:=bodL) (m:=cd) (Kept.refl P (P+1) (aF.alloc (.cells (pw bodL) 9))) U s;rw[K]at aH;have ah:V _:=bR.o.keep0 (ez 0 0 aF (.cells (pw bodL) 9));have bU:V _:=bX.o.trans (ez _ _ aF (.cells (pw bodL) 9));clear bR bX;generalize aF.alloc (.cells (pw bodL) 9)=b8 at*
  have z:(hd0 aj g).size<=1000:=by
   simp only[hd0,yaq,gu,yap,List.length_nil];omega
  unfold hd0 at z HE;have aS:(⟨#[100,101,102,32,102,40,112,41,32,61,32]⟩++aj++⟨#[59]⟩++g:ByteArray).size<=1000000:=by rw[yaq]at z;omega
  replace z:=yan z (by decide:1000<=1000000);repeat (rw[yaq]at z;refine sz2 z ?_;clear z;intro _ z)
  repeat (rw[yaq]at aS;refine sz2 aS ?_;clear aS;intro _ aS)
  have bW:=ez 0 0 b8 (.cells #[.string ⟨#[102]⟩,hF 0] 100);have m:V _:=ah.o.keep0 bW;have bf:V _:=bU.o.trans (ft bW);clear ah bU;have F:=bf.o.size;go_upto_region 10 with (at_builtin;refine mB _ rfl _ _ rfl w.heap.size iR [] rfl (yav _ _ _ _) b8.heap.size ([102],0) rfl xac xac xab F ?_;intro g9 X n9 cf bO r H _;subst bO;have I:Kept 0 0 _ cf:=⟨H.os,H.tape,H.output,H.size,λb hb _=>H.block b hb (λe=>by cases e)⟩;have HO:V (cf.ownsRow w.heap.size 100 2 (hE g9 1 X) ([([102],0)]:List (List UInt8×Int)).length (flE [([102],0)])):=r;have HR:V _:=m.o.keep0 I;have HK:V _:=bf.o.trans (ft I);clear H I r);clear m bf F z aS;exact WkL
 go_upto_region 10 with (go_at_call 32;refine yai S.o ?_;rintro e aF ⟨rfl,(HR:V _),aJ,-⟩;have HK:V _:=bN.o.trans aJ;clear aJ);have HO:V (aF.ownsRow w.heap.size 100 2 (.slice none 0 0) ([]:List (List UInt8×Int)).length (flE [])):=yav aF w.heap.size 100 2;clear S bN;exact WkL
end
section
variable{bs:List Int}
theorem P3(hb:∀i,nv bs i<256)(i):∃(t:List UInt8) (j:Nat),t.length<=4000/\∀{w:World}{P n cap:Nat}{a:Option Addr},RdF w P a n cap i bs->Calls prog 35 #[hD P] w (SrO w P n cap a bs j t):=by
 obtain⟨o,N,aV⟩:∃k:Nat,k<3/\(nv bs i:Int)%3=k:=⟨nv bs i%3,by omega,by omega⟩
 obtain⟨c,ak⟩:∃c,nv bs (ni bs i)=c:=⟨_,rfl⟩
 have ab:=hb (ni bs i);rw[ak]at ab;obtain⟨cd,s,cp⟩:∃k:Nat,k<5/\c/2%5=(k:Int):=⟨c/2%5,by omega,by omega⟩
 have u:=H4 (l:=gapL) (z:=8) xab o;have B:=H4 (l:=bodL) (z:=30) xab cd;generalize y:(⟨_⟩:ByteArray)=g at u;generalize K:(⟨_⟩:ByteArray)=aj at B
 obtain⟨aW,Q,ai,bZ,r⟩:∃aW L,(((c:Int)%2=1/\V (aW=⟨[([102],0)],hd0 aj g,ni bs (ni bs i)⟩))\/((c:Int)%2=0/\V (aW=⟨[],⟨#[]⟩,ni bs (ni bs i)⟩)))/\Gs L 1000 aW/\L<=1:=by
  rcases (by omega:(c:Int)%2=1\/(c:Int)%2=0) with h|h
  ·exact⟨_,1,.inl ⟨h,rfl⟩,⟨rfl,by show ∀x∈[(([102]:List UInt8),(0:Int))],x.1.length<=5;decide,by simp only[hd0,yaq,gu,yap,List.length_nil];omega⟩,by decide⟩
  exact⟨_,0,.inr ⟨h,rfl⟩,⟨rfl,(λ_ h=>by cases h),Nat.zero_le _⟩,by decide⟩
 obtain⟨f1,f⟩:=PZ (bs:=bs) u (s:=⟨aW.e,aW.o,ni bs aW.i⟩) bZ;have H:aW.i=ni bs (ni bs i):=by rcases ai with h|h<;>rw[h.2.o]
 obtain⟨nn,cU,ad⟩:∃n:Nat,n<=3/\1+(nv bs (ni bs (ni bs i)):Int)%3=n:=⟨1+nv bs (ni bs (ni bs i))%3,by omega,by omega⟩
 obtain⟨f2,e⟩:=P0 hb u (s:=⟨(f1 _).e,(f1 nn).o,ni bs (f1 nn).i⟩) nn (f.2 _).1;obtain⟨mm,l,em⟩:∃n:Nat,n<=3/\(nv bs (f1 nn).i:Int)%4=n:=⟨nv bs (f1 nn).i%4,by omega,by omega⟩
 have aC:=(e.2 mm).1
 obtain⟨bA,h3,ay⟩:∃bA:Ss,(((mm=0\/¬(c:Int)%5=1)/\bA=f2 _)\/(0<mm/\(c:Int)%5=1/\∃es p q x v,(f2 mm).e=es++[(p,q)]/\Dr (f2 mm).e bs (f2 mm).i 64 (ex3 q 2) 16000 x v/\(rpX g c p x).size<=100000/\bA=⟨(f2 mm).e,(f2 mm).o++rpX g c p x,v⟩))/\Gs _ 220000 bA:=by
  by_cases h:mm=0\/¬(c:Int)%5=1
  ·exact⟨_,.inl ⟨h,rfl⟩,aC.1,aC.2.1,yan aC.2.2 xaa⟩
  obtain⟨m,rfl⟩:∃m,mm=m+1:=⟨mm-1,by omega⟩
  obtain⟨bI,b8,_,bg⟩:=(e.2 m).2;obtain⟨x,v,G⟩:=Gg aC.2.1 hb 2 xab _ (nv3 (bs:=bs) (f2 m).i) (f2 (m+1)).i
  have z:(rpX g c (nmB (nn+m)) x).size<=17000:=by
   have:=G.1;have:=xQ (nn+m);have:=jR (c/5%4);simp only[rpX,yaq,gu,yap,List.length_nil];omega
  exact⟨_,.inr ⟨by omega,by omega,_,_,_,x,_,by rw[bg],G,by omega,rfl⟩,aC.1,aC.2.1,by have:=aC.2.2;rw[yaq];omega⟩
 obtain⟨f3,F⟩:=P1 hb u (s:=⟨bA.e,bA.o,ni bs bA.i⟩) ay;obtain⟨m3,R,e4⟩:∃n:Nat,n<=3/\1+(nv bs bA.i:Int)%3=n:=⟨1+nv bs bA.i%3,by omega,by omega⟩
 obtain⟨t,a6,ht⟩:∃t:List _,t.length<=4000/\(((f3 _).o.size<=4000/\⟨t.toArray⟩=(f3 _).o)\/(4000<(f3 m3).o.size/\⟨t.toArray⟩=(f3 _).o.extract 0 _)):=by
  by_cases h:(f3 m3).o.size<=4000
  ·exact⟨_,h,.inl ⟨h,rfl⟩⟩
  exact⟨((f3 m3).o.extract 0 4000).data.toList,by show ByteArray.size _<=_;rw[ByteArray.size_extract];omega,.inr ⟨by omega,rfl⟩⟩
 exact⟨t,_,a6,λC=>P2 hb ak N aV u y cp s K B ai f r yad ad cU e xaa xaa em l h3 F xaa yad e4 R rfl ht C⟩
end
section
attribute[local go_sem] eF eE eD
theorem dE.qdh(h:Zp:=by
 clear an;cases aO:(u.op==v.op)
 ·have aq:(u.op !=v.op)=true:=by rw[bne,aO];rfl
  clear aO;exact xes
 have aq:(u.op !=v.op)=false:=by rw[bne,aO];rfl
 cases aX:(u.len==v.len)
 ·have aN:(u.len !=v.len)=true:=by rw[bne,aX];rfl
  clear aO aX;exact xes
 have aN:(u.len !=v.len)=false:=by rw[bne,aX];rfl
 cases ah:(u.a==v.a)
 ·have bA:(u.a !=v.a)=true:=by rw[bne,ah];rfl
  clear aO aX ah;exact xes
 have bA:(u.a !=v.a)=false:=by rw[bne,ah];rfl
 cases bg:(u.b==v.b)
 ·have cw:(u.b !=v.b)=true:=by rw[bne,bg];rfl
  clear aO aX ah bg;exact xes
 have cw:(u.b !=v.b)=false:=by rw[bne,bg];rfl
 cases a2:(u.c==v.c)
 ·have cC:(u.c !=v.c)=true:=by rw[bne,a2];rfl
  clear aO aX ah bg a2;exact xes
 have cC:(u.c !=v.c)=false:=by rw[bne,a2];rfl
 cases bL:(u.op !=1)
 ·clear aO aX ah bg a2;go_enter func10,ntmps10;exact xhy
 clear aO aX ah bg a2;go_enter func10,ntmps10;go_wp2;go_ret;exact⟨by simp,HK.o _ _⟩):Zp:=h
open dE in
theorem H7(w u v)(aI:u.k<18446744073709551616)(aM:v.k<18446744073709551616):Calls prog 10 #[u.agg,v.agg] w λe J=>e=.returned (.bool (fK u v))/\Kept 0 0 w J:=by
 have au:V (∀w,Calls prog 26 #[.float .f64 u.k,.float .f64 v.k] w λe J=>e=.returned (.bool (fb u.k==fb v.k))/\J=w):=λw=>(Hz u.k v.k w aI aM).mono λ_ _ h=>⟨by rw[h.1,Bv],h.2⟩
 exact qdg
