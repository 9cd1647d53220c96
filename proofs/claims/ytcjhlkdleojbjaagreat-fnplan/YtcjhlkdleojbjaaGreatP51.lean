import Derived.Test.YtcjhlkdleojbjaaGreatP41
namespace Go.Proofs.Z
open Tryz Go.RowKit Flt
set_option maxRecDepth 1000000
set_option maxHeartbeats 0
section
attribute[local go_sem] eF eE eD
variable{w B:World}{q j lo hi' k A J n bh bb:Nat}{bJ:List Nat}{r:List (List Nat)}{a b:Option Addr}{xs ins:List Int}{vs:List Vl}{v:Vl}{bz bo bw:Value}
theorem Az(outs:List Int)(y:List (List Nat))(h:j<outs.length):(outs.map λo=>y.getD o.toNat []).getD j []=y.getD (outs.getD j 0).toNat []:=by
 have e:outs.getD j 0=outs[j]:=by rw[yai,yam h];rfl
 rw[e,yai,List.getElem?_map,yam h];rfl
theorem O4(w lo hi a b n m bh cb ins r)(f:IS w lo hi a n ins)(g:SS w b m r)(ad:n<=1099511627776):
  Calls prog 21 #[.slice a n bh,.slice b m cb] w λe B=>e=.returned (.bool (inB ins r))/\Drawn w B:=by
 have HF:E _:=f;have be:E _:=g;have HL:E (ins.length=n/\r.length=m):=⟨f.len,g.len⟩
 clear f g;by_cases R:m=n
 ·subst R;go_enter func21,ntmps21;go_wp2_with fail;go_loopw [5] (λi W=>∃k:Nat,k<=m/\i=hA k/\E ((List.range k).all (λi=>((r.getD i []).length:Int)==ins.getD i 0)=true)/\E (Drawn w W)) (λi _=>m-(intOf i).toNat)
  case atStart=>exact⟨0,yae,rfl,rfl,Drawn.refl _⟩
  case round=>
   obtain⟨k,O,rfl,a2,bl⟩:=hrel;by_cases aG:k<m
   ·rcases HF.o.at_ with bD|⟨az,bv,b5,aQ,a8,bi,bk⟩
    ·omega
    rcases be.o.at_ with bD|⟨bX,bU,bY,aP,y2⟩
    ·omega
    have c1:=(bl.o.cell _).trans (bk k aG);obtain⟨aS,u,p,_,_⟩:=y2 k aG;have c2:=(bl.o.cell _).trans p;have bm:(0:Int)<=k:=xaa;have aO:(k:Int)<m:=xaa;subst b5 bY;clear aQ a8 bi bk aP y2 p;cases an:(((r.getD k []).length:Int)==ins.getD k 0)
    ·have H:E (inB ins r=false):=by
      show inB ins r=false;unfold inB;rw[HL.o.1,kz aG an,Bool.and_false]
     have aj:(((r.getD k []).length:Int) !=ins.getD k 0)=true:=by rw[bne,an];rfl
     generalize (r.getD k _).length=y at c2 aj;generalize ins.getD k 0=x at c1 aj;clear an a2;go_wp2_with fail;go_quiet (fail)
     go_wp2;go_ret;exact⟨hO H.o,Drawn.more bl.o _⟩
    have H:E _:=jh a2.o an;have aj:(((r.getD k []).length:Int) !=ins.getD k 0)=false:=by rw[bne,an];rfl
    generalize (r.getD k _).length=y at c2 aj;generalize ins.getD k 0=x at c1 aj;clear an a2;go_wp2_with fail;go_quiet (fail)
    go_wp2;go_roundw;exact⟨k+1,by omega,by go_num,H,Drawn.more bl.o _⟩;simp[intOf];omega
   have H:E (inB ins r=true):=by
    exact xgf
   clear a2;go_wp2;go_ret;exact⟨hO H.o,bl.o⟩
 have e:inB ins r=false:=by
  exact xiq
 rw[e];have t:((n:Int) !=m)=true:=by simp;omega
 go_enter func21,ntmps21;go_wp2;go_ret;exact⟨rfl,Drawn.refl _⟩
theorem Jm(w g off n c xs)(ad:1<=n)(be:n<=1000000)(an:xs.length=n)(aG:∀x∈xs,x<18446744073709551616)(ah:∀k,k<n->w.cell? ⟨g,off+k,none⟩=some (.float .f64 (xs.getD k 0))):
  Calls prog 23 #[.slice (some ⟨g,off,none⟩) n c] w λe B=>∃G cap,e=.returned (hz G n cap)/\n<=cap/\FO B G n xs/\w.heap.size<=G/\Kept 0 0 w B:=by
 obtain⟨bW,hi,b4,b3,b0⟩:=info_parts yx;have bm:E _:=sB an ah;have HO:E _:=yaw w w.heap.size 57 1;have ar:E _:=an;have y:E _:=aG;clear ah an aG;go_enter func23,ntmps23;go_wp2_with (first|(at_builtin;refine wpList_append_own _ rfl _ _ _ rfl _ 57 _ _ 1 8 underlying55 hi b4 b3 b0 rfl xab _ _ _ rfl HO.o _ n c _ rfl ?c0 bm.o ?c2 ?c3 ?c4 ?c5 ?_))
 case c0=>exact ar.o
 case c2=>intro u aB;rfl
 case c3=>unfold maxLen;omega
 case c4=>omega
 intro v' bj bF aW _;have a6:bj.ownsRow w.heap.size 57 1 v' n (xs.map (Value.float .f64)):=by simpa using bF
 obtain⟨G,cap,rfl,R,aS,aa⟩:=FO.of_own a6 xaa ar.o y.o;have H:E _:=gm aW (λk O=>by simp[Value.ownBlock]at O) (Kept.refl 0 0 w) yad;clear bF aW a6;go_wp2;go_ret;exact⟨G,_,by simp,aS,aa,R,H.o⟩
theorem O5(v)(ap:q<3):fld v q=[v.a,v.b,v.c].getD q 0:=by
 rcases (by omega:q=0\/q=1\/q=2) with rfl|rfl|rfl<;>rfl
theorem O6(v l)(ap:q<cnt v.op):(opl v l (cnt v.op)).getD q []=l.getD (fld v q).toNat []:=by
 have:=fI v.op;rcases (by omega:q=0\/q=1\/q=2) with rfl|rfl|rfl
 ·show(if 0<cnt v.op then _ else _)=_;rw[hD ap];rfl
 ·show(if 1<cnt v.op then _ else _)=_;rw[hD ap];rfl
 show(if 2<cnt v.op then _ else _)=_;rw[hD ap];rfl
theorem Mw(v l)(ap:q<3)(h:¬q<cnt v.op):(opl v l (cnt v.op)).getD q []=[]:=by
 rcases (by omega:q=0\/q=1\/q=2) with rfl|rfl|rfl
 ·show(if 0<cnt v.op then _ else _)=_;rw[hC h]
 ·show(if 1<cnt v.op then _ else _)=_;rw[hC h]
 show(if 2<cnt v.op then _ else _)=_;rw[hC h]
theorem pd{W I}{us:List Value}{v:Value}{l:List (List Nat)}(h:∀j,j<k->∃b n c,us[j]? =some (.slice b n c)/\Cl W (.slice b n c) (l.getD j [])/\(0<n->∀p,b=some p->v.ownBlock≠some p.block))(q:Kept 0 0 W I):
  ∀j,j<k->∃b n c,us[j]? =some (.slice b n c)/\Cl I (.slice b n c) (l.getD j [])/\(0<n->∀p,b=some p->v.ownBlock≠some p.block):=λj hj=>by
 obtain⟨b,n,c,a1,U,a3⟩:=h j hj
 exact⟨b,n,c,a1,U.keep q,a3⟩
theorem uG(h:r.length=k):(r++[bJ]).getD k []=bJ:=by
 rw[yai,yas xaa,h,Nat.sub_self];rfl
theorem AA(h:q<xs.length):xs.getD q 0∈xs:=by
 exact xhp
theorem Mx(ok:okV ins vs k=true)(al:(vs.getD k hF).op≠0):
  (1<=(vs.getD k hF).op/\(vs.getD k hF).op<=13)/\∀q,q<cnt (vs.getD k hF).op->0<=fld (vs.getD k hF) q/\fld (vs.getD k hF) q<k:=by
 unfold okV at ok;rw[hC al]at ok;simp only[Bool.and_eq_true]at ok;refine⟨?_,λq ap=>?_⟩
 ·by_cases c:0<=(vs.getD k hF).op/\(vs.getD k hF).op<=13
  ·omega
  have:=ok.2.2;rw[vr c]at this;cases this
 have h:=List.all_eq_true.1 ok.2.1 _ (AA (by rw[oO];exact ap));have N:=of_decide_eq_true h;rw[G5 _ ap,<-O5 _ (hJ (fI (vs.getD k hF).op))]at N;exact N
theorem Qi(ok:okV ins vs k=true)(al:(vs.getD k hF).op=0):
  0<=(vs.getD k hF).a/\(vs.getD k hF).a<ins.length/\1<=(vs.getD k hF).len/\(vs.getD k hF).len<=1000/\(vs.getD k hF).len=ins.getD (vs.getD k hF).a.toNat 0:=by
 have l:=fU ok;unfold okV at ok;rw[hD al]at ok;simp only[Bool.and_eq_true]at ok;have:=of_decide_eq_true ok.2.1;exact⟨this.1,this.2,l.1,l.2,by simpa using ok.2.2⟩
def NC(w':World)(A B:Nat)(v:Vl)(x0 x1 x2:Value):Prop:=
 w'.cell? ⟨A,0,none⟩=some (.int .i64 v.op)/\w'.cell? ⟨A,0+1,none⟩=some (.int .i64 v.len)/\w'.cell? ⟨A,0+2,none⟩=some (.int .i64 v.a)/\w'.cell? ⟨A,0+3,none⟩=some (.int .i64 v.b)/\w'.cell? ⟨A,0+4,none⟩=some (.int .i64 v.c)/\w'.cell? ⟨A,0+5,none⟩=some (.float .f64 v.k)/\w'.cell? ⟨B,0,none⟩=some x0/\w'.cell? ⟨B,1,none⟩=some x1/\w'.cell? ⟨B,2,none⟩=some x2
theorem NC.of(h:NC w A J v bz bo bw)(e:∀g o u,(g=A\/g=J)->w.cell? ⟨g,o,none⟩=some u->B.cell? ⟨g,o,none⟩=some u):NC B A J v bz bo bw:=by
 obtain⟨al,F,N,h3,a6,bF,bp,aj,ax⟩:=h;exact⟨e _ _ _ (.inl rfl) al,e _ _ _ (.inl rfl) F,e _ _ _ (.inl rfl) N,e _ _ _ (.inl rfl) h3,e _ _ _ (.inl rfl) a6,e _ _ _ (.inl rfl) bF,e _ _ _ (.inr rfl) bp,e _ _ _ (.inr rfl) aj,e _ _ _ (.inr rfl) ax⟩
theorem NC.keep(h:NC w A J v bz bo bw)(k:Kept 0 0 w B)(a2:A<w.heap.size)(aT:J<w.heap.size):NC B A J v bz bo bw:=
 h.of λg o u aJ ah=>iD k (by rcases aJ with rfl|rfl;exact a2;exact aT) ah
theorem NC.far{z aV}(h:NC w A J v bz bo bw)(aJ:w.grownBy B z)(aD:∀i,z=some i->i<aV)(e:aV<=A)(f:aV<=J)(a2:A<w.heap.size)(aT:J<w.heap.size):NC B A J v bz bo bw:=
 h.of λg o u C ah=>by
  rw[aJ.cell_far _ (by rcases C with rfl|rfl;exact a2;exact aT) (λc=>hJ (aD g c.symm))]
  exact ah
theorem Jn(w a1 U a3 b Z c1 n2 c2 ab c3 m cb ins vs outs r)(f:GS w a1 Z U n2 a3 ab ins vs outs)(s:SS w b m r)(X:jf r)(h:(List.range n2).all (okV ins vs)=true)(N:inB ins r=true)(cg:n2<=2000):
  Calls prog 22 #[eZ a1 Z c1 U n2 c2 a3 ab c3,.slice b m cb] w λe B=>∃a cap y,e=.returned (.slice a n2 cap)/\SS B a n2 y/\(∀j,j<n2->gC (y.getD j []) ((fV r vs n2).getD j []))/\Kept 0 0 w B:=by
 obtain⟨bW,hi,b4,b3,b0⟩:=info_parts Co;have ae:=f.i.len;have a9:=f.v.len;have bH:E _:=h
 have bq:E _:=sC X (λk=>by
  rw[yai]
  cases cj:vs[k]? with
  |none=>decide
  |some v=>exact f.v.lt v (List.mem_of_getElem? cj))
 have cc:E (∀i,i<Z->((r.getD i _).length:Int)=ins.getD i 0):=λi hi=>by
  have:=N
  unfold inB at this
  simp only[Bool.and_eq_true,ae]at this
  simpa using List.all_eq_true.1 this.2 i (List.mem_range.2 hi)
 have HM:E (m=Z):=by
  have:=N;unfold inB at this;simp only[Bool.and_eq_true,decide_eq_true_eq,ae,s.len]at this;exact this.1
 have aI:=ez 0 0 w (e9 a1 Z c1 U n2 c2 a3 ab c3);have av:E _:=fB w (.slice a1 Z c1) (.slice U n2 c2) (.slice a3 ab c3);have HF:E _:=f.keep aI;have ao:E _:=s.keep aI;have HK:E _:=aI;have b2:E (w.heap.size+1<=(w.alloc (e9 a1 Z c1 U n2 c2 a3 ab c3)).heap.size):=by show _<=_;simp
 clear aI h f s X;go_enter func22,ntmps22;go_wp2_with fail;generalize w.alloc _=aA at av HF ao HK b2⊢;go_loopw [5,6] (λu i W=>∃k:Nat,k<=n2/\i=hA k/\E (AR W aA.heap.size u k (fV r vs k))/\E (Kept 0 0 aA W)) (λ_ i _=>n2-(intOf i).toNat)
 case atStart=>exact⟨0,yae,rfl,AR.nil _ _ _,Kept.refl _ _ _⟩
 case round=>
  obtain⟨k,O,rfl,hP,aI⟩:=hrel;have aC:=(G0.keep av.o aI.o).q1;by_cases aG:k<n2
  ·have aX:=GS.keep HF.o aI.o;rcases aX.v.at_ with bD|⟨az,bv,b5,aQ,a8,bi,bk⟩
   ·omega
   have a7:=bk k aG;have ok:=List.all_eq_true.1 bH.o k (List.mem_range.2 aG)
   have bg:(vs.getD k hF).k<18446744073709551616:=by
    rw[yai];cases cj:vs[k]? with
    |none=>decide
    |some v=>exact aX.v.lt v (List.mem_of_getElem? cj)
   have bE:E _:=bg;have aL:=ez 0 0 wr (fH (vs.getD k hF).op (vs.getD k hF).len (vs.getD k hF).a (vs.getD k hF).b (vs.getD k hF).c (vs.getD k hF).k);have aT:E _:=aL;obtain⟨us,a6,(aJ:E _)⟩:=hP.o;have bN:E (∀i,u5.ownBlock=some i->_):=λi hi=>(eH a6 hi).2;have ah:E _:=eO a6 aL;clear a6;by_cases b9:(vs.getD k hF).op=0
   ·have am:E (fV r vs (k+1)=fV r vs k++[r.getD (vs.getD k hF).a.toNat []]):=by
     show _=_;rw[fV];unfold one;rw[hD b9]
    have aV:=Qi ok b9;rw[ae]at aV;have aR:=cc.o (vs.getD k hF).a.toNat xaa;rw[<-aV.2.2.2.2]at aR;clear aQ a8 bi bk ok aX aL bg;generalize vs.getD k _=v at a7 aT ah am b9 aV aR bE;obtain⟨op,len,A,J,C,K⟩:=v;simp only at b9 aV aR am;subst b9;obtain⟨x,rfl⟩:∃x:Nat,A=x:=⟨A.toNat,by omega⟩
    rw[Int.toNat_natCast]at aR am;have cI:x<m:=hJ HM.o
    rcases (SS.keep ao.o (Kept.trans aI.o aT.o)).at_ with bD|⟨bX,bU,bY,aP,y2⟩
    ·omega
    obtain⟨R,l,aq,aN,be⟩:=y2 x cI;rcases be.at_ with bD|⟨aS,br,an,bo,bw,bR,cz⟩
    ·omega
    have HC:E _:=Jm _ _ _ _ l _ xaa xaa rfl be.lt cz;subst b5 bY an;clear aP y2 aN be bo bw bR cz;generalize r.getD x _=bJ at aq HC am aR;obtain⟨aa,a5⟩:∃aa,aa=bJ.length:=⟨_,rfl⟩
    rw[<-a5]at aq HC aR;have Q:E (aa=bJ.length/\1<=aa/\aa<=1000):=⟨a5,by omega,by omega⟩
    clear aV aR a5;obtain⟨bS,aH,bf,Y,bC,bZ⟩:=a7;simp only at bS aH bf Y bC bZ;go_wp2_with fail;refine yaj HC.o ?_;rintro e bp ⟨G,cap,rfl,aj,cf,ck,bI⟩;have a6:=eO ah.o bI;have b6:=(Kept.trans aI.o (Kept.trans aT.o bI)).size;clear HC aq bS aH bf Y bC bZ aC;go_wp2_with (first|(at_builtin;refine wpList_append_lies _ rfl _ _ _ rfl _ 55 _ _ 1 _ underlying36 hi b4 b3 b0 rfl xab _ _ _ rfl (a6.alloc _) _ 1 1 [hz G aa cap] rfl rfl ?c1 ?c2 xab ?c3 ?c4 ?c5 _ rfl ?_))
    case c1=>exact cell_one_new _ _ _
    case c2=>intro u aB;simp at aB;subst aB;rfl
    case c3=>unfold maxLen;omega
    case c4=>omega
    case c5=>simp;omega
    intro g9 cap9 bj bF aW bT _
    have R1:E (AR bj _ _ _ _):=
     AR.step a6 (pd aJ.o (Kept.trans aT.o bI)) ⟨_,_,_,_,rfl,aj,cf.fs,rfl⟩ (λ_ p aM c=>by
      cases aM
      have:=(eH ah.o (k:=G) c).2
      omega) bF aW (by rcases bT with h|h;exact .inl h;exact .inr (by rw[h];simp)) (λj hj=>lI _ _ hj) (by rw[am.o];exact uG (jQ _ _ _))
    have R2:E _:=gm aW (λi hi=>(eH a6 hi).1) ((Kept.trans aI.o (Kept.trans aT.o bI)).trans (ez 0 0 _ _)) yad;clear bF aW bT a6 bI cf aJ ah aT hP aI;exact xda
   have am:E (fV r vs (k+1)=fV r vs k++[kop (vs.getD k hF) (fV r vs k)]):=by
    show _=_;rw[fV];unfold one;rw[hC b9];rfl
   have hops:=Mx ok b9;have bA:E _:=hops.2;have aD:=hops.1;clear hops aQ a8 bi bk ok aX aL bg;generalize vs.getD k _=v at a7 aT ah am b9 aD bA bE;subst b5;have cx:E _:=i9 wr v;have b1:E (wr.heap.size<(wr.alloc (fH v.op v.len v.a v.b v.c v.k)).heap.size):=by show _<_;simp
   obtain⟨bS,aH,bf,Y,bC,bZ⟩:=a7;have bn:=yan b9;clear b9;obtain⟨ag,cl⟩:∃ag,ag=wr:=⟨_,rfl⟩
   subst cl;go_wp2_with fail;clear bS aH bf Y bC bZ aC bn;have ai:E _:=(⟨_,ah.o,pd aJ.o aT.o⟩:AR _ _ _ k _)
   have aK:E _:=Kept.trans aI.o aT.o;have I:=aT;clear aT ah aJ aI;generalize ag.alloc _=aF at cx b1 ai aK I⊢;go_loopw [8,9] (λa i W=>∃q:Nat,q<=3/\i=hA q/\E (AR W aF.heap.size a q (opl v (fV r vs k) (cnt v.op)))/\E (Kept 0 0 aF W)) (λ_ i _=>3-(intOf i).toNat)
   case atStart=>exact⟨0,yae,rfl,AR.nil _ _ _,Kept.refl _ _ _⟩
   case round=>
    obtain⟨q,ap,rfl,a2,z⟩:=hrel;obtain⟨aZ,ax,aU,bx,cD,cJ⟩:=cx.o.keep b1.o z.o yaa;have HO:E _:=qp v.op wr xaa xaa;rw[zk aD.1 aD.2]at HO;have cC:=fI v.op;by_cases ci:q<3
    ·obtain⟨S,H,ce⟩:=a2.o;by_cases ak:q<cnt v.op
     ·have cF:=bA.o q ak;have tq:q<(cnt v.op:Int):=xaa;obtain⟨o,ho⟩:∃o:Nat,fld v q=o:=⟨(fld v q).toNat,by omega⟩
      have bL:=mj wr v q xaa;have au:=O6 v (fV r vs k) ak;rw[ho]at bL cF au;rw[Int.toNat_natCast]at au;have ar:E _:=bL;have HE:E _:=au;obtain⟨d0,cB,cG,cr,cX,cP⟩:=AR.cell ai.o xaa;obtain⟨R,m1,l,aq,aN,_⟩:=cP o xaa;have bM:E _:=aN;have bV:o<k:=xaa;subst cG;clear cP cr aN;go_wp2_with (first|(go_at_call 51;refine yaj HO.o ?_;rintro e bc ⟨rfl,rfl⟩)|fail);refine yaj ar.o ?_;rintro e bp ⟨rfl,bQ⟩;have g:=eO H bQ;have be:=iD (Kept.trans z.o bQ) cX aq;have b6:=(Kept.trans z.o bQ).size;clear aZ ax aU bx cD cJ ar HO;go_wp2_with (first|(at_builtin;refine wpList_append_lies _ rfl _ _ _ rfl _ 55 _ _ 1 _ underlying36 hi b4 b3 b0 rfl xab _ _ _ rfl (g.alloc _) _ 1 1 [.slice R m1 l] rfl rfl ?c1 ?c2 xab ?c3 ?c4 ?c5 _ rfl ?_))
      case c1=>exact cell_one_new _ _ _
      case c2=>intro u aB;simp at aB;subst aB;rfl
      case c3=>unfold maxLen;omega
      case c4=>omega
      case c5=>simp;omega
      intro g9 cap9 bj bF aW bT _
      have R1:E (AR bj _ _ _ _):=
       AR.step g (pd ce bQ) (Cl.keep bM.o (Kept.trans z.o bQ)) (λad p aM c=>by
        have F:=(eH g c).1
        have N:=Cl.lt bM.o ad p aM
        omega) bF aW (by rcases bT with h|h;exact .inl h;exact .inr (by rw[h];simp)) (λj hj=>rfl) HE.o
      have R2:E _:=gm aW (λi hi=>(eH g hi).1) ((Kept.trans z.o bQ).trans (ez 0 0 _ _)) yad;clear bF aW bT g bQ ce H a2 z be aq;exact xgx
     have tq:¬(q<(cnt v.op:Int)):=xaa;have HE:E _:=Mw v (fV r vs k) ci ak;have b6:=z.o.size;go_wp2_with (first|(go_at_call 51;refine yaj HO.o ?_;rintro e bc ⟨rfl,rfl⟩)|(at_builtin;refine wpList_append_lies _ rfl _ _ _ rfl _ 55 _ _ 1 _ underlying36 hi b4 b3 b0 rfl xab _ _ _ rfl (H.alloc _) _ 1 1 [.slice none 0 0] rfl rfl ?c1 ?c2 xab ?c3 ?c4 ?c5 _ rfl ?_))
     case c1=>exact cell_one_new _ _ _
     case c2=>intro u aB;simp at aB;subst aB;rfl
     case c3=>unfold maxLen;omega
     case c4=>omega
     case c5=>simp;omega
     intro g9 cap9 bj bF aW bT _
     have R1:E (AR bj _ _ _ _):=
      AR.step H ce (Cl.nil _) (λad=>absurd ad (Nat.lt_irrefl _)) bF aW (by rcases bT with h|h;exact .inl h;exact .inr (by rw[h];simp)) (λj hj=>rfl) HE.o
     have R2:E _:=gm aW (λi hi=>(eH H hi).1) (Kept.trans z.o (ez 0 0 _ _)) yad;clear bF aW bT ce H a2 z aZ ax aU bx cD cJ HO;exact xgx
    obtain rfl:q=3:=xaa;obtain⟨aY,c7,cH,ca,c6,ct⟩:=AR.cell a2.o xaa;obtain⟨bz,ba,bK,bP,bG,_⟩:=ct 0 xaa;obtain⟨bo,aP,bu,aq,f1,_⟩:=ct 1 xaa;obtain⟨bw,y2,p2,aN,f2,_⟩:=ct 2 xaa;have HE:E _:=λm=>zG _ v bE.o _ _ _ _ _ _ (bG.keep (eJ 0 0 _ m)) (f1.keep (eJ 0 0 _ m)) (f2.keep (eJ 0 0 _ m)) (lr (bq.o k _));obtain⟨us,bl,cy⟩:=AR.keep ai.o z.o;have cw:E _:=cy;have co:E _:=Kept.trans aK.o z.o;have d4:=co.o.size;subst cH;have cA:=ca;clear ct ca bG f1 f2 cy a2 HO ai;go_wp2_with fail;have cu:E (NC _ _ _ v _ _ _):=⟨aZ,ax,aU,bx,cD,cJ,bP,aq,aN⟩
    have af:E (aF.heap.size<=aY/\aY<wr.heap.size/\ag.heap.size<wr.heap.size/\ag.heap.size<=aY):=⟨cA,c6,hK z.o.size b1.o,hJ b1.o⟩
    go_region_held3 (λB=>B.cell? ⟨ag.heap.size,0,none⟩=some (hA v.op)/\B.cell? ⟨ag.heap.size,0+1,none⟩=some (hA v.len)/\B.cell? ⟨ag.heap.size,0+2,none⟩=some (hA v.a)/\B.cell? ⟨ag.heap.size,0+3,none⟩=some (hA v.b)/\B.cell? ⟨ag.heap.size,0+4,none⟩=some (hA v.c)/\B.cell? ⟨ag.heap.size,0+5,none⟩=some (.float .f64 v.k)/\B.cell? ⟨aY,0,none⟩=some (.slice bz ba bK)/\B.cell? ⟨aY,1,none⟩=some (.slice bo aP bu)/\B.cell? ⟨aY,2,none⟩=some (.slice bw y2 p2)) (go_keep)
     (first
      |(go_at_call 54;refine yaj (HE.o _) ?_;rintro e bp ⟨u,rfl,⟨b7,cp,c5,c8,rfl,ch,bO,d6⟩,bQ⟩;have cn:=NC.keep cu.o (Kept.trans (eJ 0 0 _ 1) bQ) af.o.2.2.1 af.o.2.1;obtain⟨bm,aO,P,cq,cK,cM,cN,cQ,cR⟩:=cn)
      |(refine step_append_lies _ rfl _ _ _ rfl _ 55 _ _ 1 _ underlying36 hi b4 b3 b0 rfl xab _ _ _ (by simp[Act.eval]) ((eO bl (Kept.trans (eJ 0 0 _ 1) bQ)).alloc _) _ 1 1 _ (by simp[Act.eval]) rfl (cell_one_new _ _ _) (by intro u aB;simp at aB;subst aB;rfl) xab (by unfold maxLen;omega) xaa (by have:=bQ.size;simp at this;simp;omega) _ rfl ?_;intro g9 cap9 bj bF aW bT _;have aw:=NC.far (NC.keep cu.o ((Kept.trans (eJ 0 0 _ 1) bQ).trans (ez 0 0 _ _)) af.o.2.2.1 af.o.2.1) aW bN.o yad af.o.2.2.2 (by have:=bQ.size;have:=af.o;simp at*;omega) (by have:=bQ.size;have:=af.o;simp at*;omega);obtain⟨bB,b8,cg,cO,cS,cT,cU,cV,cW⟩:=aw))
    have cd:=Kept.trans (eJ 0 0 _ 1) bQ
    have R1:E (AR bj _ _ _ _):=
     AR.step (eO bl cd) (pd cw.o cd) (Cn.cl ⟨_,_,_,_,rfl,ch,bO,d6⟩) (λal p aM c=>by
      have F:=(eH bl c).2
      have N:=Cn.ge ⟨_,_,_,_,rfl,ch,bO,d6⟩ al p aM
      have h3:(wr.drewN 1).heap.size=wr.heap.size:=rfl
      omega) bF aW (by rcases bT with h|h;exact .inl h;exact .inr h) (λj hj=>lI _ _ hj) (by rw[am.o];exact uG (jQ _ _ _))
    have R2:E _:=gm aW (λi hi=>(eH bl hi).1) ((Kept.trans co.o cd).trans (ez 0 0 _ _)) yad;clear bF aW bT bl cw HE co cu af bQ cd ch bO d6 bB b8 cg cO cS cT cU cV cW bm aO P cq cK cM cN cQ cR aZ ax aU bx cD cJ;exact xda
  obtain rfl:k=n2:=xaa;obtain⟨a,cap,y,rfl,(R1:E _),(R2:E _)⟩:=hP.o.ss;have R3:E _:=Kept.trans HK.o aI.o;clear hP aI;go_wp2;go_ret;exact⟨a,_,_,rfl,R1.o,R2.o,R3.o⟩
theorem AB(w a1 U a3 b Z c1 n2 c2 ab c3 m cb ins vs outs r)(f:GS w a1 Z U n2 a3 ab ins vs outs)(s:SS w b m r)(X:jf r)(h:okG ins vs outs=true)(N:inB ins r=true):
  Calls prog 7 #[eZ a1 Z c1 U n2 c2 a3 ab c3,.slice b m cb] w λe B=>∃a cap y,e=.returned (.tuple #[.slice a ab cap,hA 0])/\SS B a ab y/\(∀j,j<ab->gC (y.getD j []) ((fV r vs n2).getD (outs.getD j 0).toNat []))/\Kept 0 0 w B:=by
 obtain⟨bW,hi,b4,b3,b0⟩:=info_parts Co;have bV:=h;have ae:=f.i.len;have a9:=f.v.len;have ai:=f.o.len;unfold okG at bV;simp only[Bool.and_eq_true,decide_eq_true_eq,ae,a9,ai]at bV;obtain⟨⟨b8,cg,cO⟩,_,aO,ho,_⟩:=bV;have bH:E _:=aO;have HO:E _:=ho;have I:E _:=X;have F:E _:=oz N _ aO;have aI:=ez 0 0 w (e9 a1 Z c1 U n2 c2 a3 ab c3);have ar:E _:=oU _ _ _ _ _ c1 _ c2 _ c3 _ _ _ (f.keep aI);rw[h]at ar;have av:E _:=fB w (.slice a1 Z c1) (.slice U n2 c2) (.slice a3 ab c3);have HF:E _:=f.keep aI;have ao:E _:=s.keep aI;have HK:E _:=aI;clear aI h f s ho aO X;go_enter func7,ntmps7;go_wp2_with fail;generalize w.alloc _=aA at ar av HF ao HK⊢;refine yaj ar.o ?_;rintro e ag ⟨rfl,ak⟩;obtain⟨_,aY,aC,aL⟩:=G0.keep av.o ak;have b9:E _:=O4 _ _ _ _ b _ m c1 cb _ _ (GS.keep HF.o ak).i (SS.keep ao.o ak) xaa;rw[N]at b9;have bB:E _:=ak;clear ak ar;go_wp2_with fail;clear aY aC aL;refine yaj b9.o ?_;rintro e aF ⟨rfl,Y⟩;have aR:=Kept.trans bB.o (Y.kept 0 0);obtain⟨_,aY,aC,aL⟩:=G0.keep av.o aR;have b2:E _:=Jn _ _ _ _ b _ c1 _ c2 _ c3 m cb _ _ _ _ (GS.keep HF.o aR) (SS.keep ao.o aR) I.o bH.o N cg;have aK:E _:=aR;clear Y aR b9 bB;go_wp2_with fail;clear aY aC aL;refine yaj b2.o ?_;rintro e bc ⟨ci,cB,y,rfl,(bl:E _),(bS:E _),bM⟩;have bO:E _:=Kept.trans aK.o bM;clear b2 aK bM;go_wp2_with fail;go_loopw [7,8] (λu i W=>∃k:Nat,k<=ab/\i=hA k/\E (AR W bc.heap.size u k (outs.map λo=>(fV r vs n2).getD o.toNat []))/\E (Kept 0 0 bc W)) (λ_ i _=>ab-(intOf i).toNat)
 case atStart=>exact⟨0,yae,rfl,AR.nil _ _ _,Kept.refl _ _ _⟩
 case round=>
  obtain⟨j,hj,rfl,hP,aI⟩:=hrel;have aL:=(G0.keep av.o (Kept.trans bO.o aI.o)).q2;by_cases aG:j<ab
  ·rcases (GS.keep HF.o (Kept.trans bO.o aI.o)).o.at_ with bD|⟨az,bv,b5,aQ,a8,bi,bk⟩
   ·omega
   have c1:=bk j aG;have x:=List.all_eq_true.1 HO.o (outs.getD j 0) (AA xaa);have z:=of_decide_eq_true x;have bN:=Az outs (fV r vs n2) (j:=j) xaa;obtain⟨o,ho⟩:∃o:Nat,outs.getD j 0=o:=⟨(outs.getD j 0).toNat,by omega⟩
   rw[ho,Int.toNat_natCast]at bN;rw[ho]at c1 z;have H:E _:=bN;have P:o<n2:=xaa;rcases (SS.keep bl.o aI.o).at_ with bD|⟨bX,bU,bY,aP,y2⟩
   ·omega
   obtain⟨R,l,aq,aN,be⟩:=y2 o P;have bn:=bS.o o P
   have ca:1<=(y.getD o []).length/\(y.getD o []).length<=1000:=by
    have ax:=i7 bn;have aU:=F.o o P;have bx:=fU (List.all_eq_true.1 bH.o o (List.mem_range.2 P));omega
   have K:E _:=bn;rcases be.at_ with bD|⟨aS,br,an,bo,bw,bR,cz⟩
   ·omega
   have HC:E _:=Jm _ _ _ _ l _ ca.1 xaa rfl be.lt cz;obtain⟨us,a6,bd⟩:=hP.o;have aJ:E _:=bd;subst b5 bY an;clear aQ a8 bi bk aP y2 aN be bo bw bR cz bN x z hP ho bn bd;generalize y.getD o _=bJ at aq HC K ca;obtain⟨aa,a5⟩:∃aa,aa=bJ.length:=⟨_,rfl⟩
   rw[<-a5]at aq HC ca;clear a5;go_wp2_with fail;refine yaj HC.o ?_;rintro e bp ⟨G,cap,rfl,aj,cf,ck,bI⟩;have g:=eO a6 bI;have b6:=(Kept.trans aI.o bI).size;clear HC aq aL c1;go_wp2_with (first|(at_builtin;refine wpList_append_lies _ rfl _ _ _ rfl _ 55 _ _ 1 _ underlying36 hi b4 b3 b0 rfl xab _ _ _ rfl (g.alloc _) _ 1 1 [hz G aa cap] rfl rfl ?c1 ?c2 xab ?c3 ?c4 ?c5 _ rfl ?_))
   case c1=>exact cell_one_new _ _ _
   case c2=>intro u aB;simp at aB;subst aB;rfl
   case c3=>unfold maxLen;omega
   case c4=>omega
   case c5=>simp;omega
   intro g9 cap9 bj bF aW bT _
   have R1:E (AR bj _ _ _ _):=
    AR.step g (pd aJ.o bI) ⟨_,_,_,_,rfl,aj,cf.fs,K.o⟩ (λ_ p aM c=>by
     cases aM
     have:=(eH a6 (k:=G) c).2
     omega) bF aW (by rcases bT with h|h;exact .inl h;exact .inr (by rw[h];simp)) (λ_ _=>rfl) H.o
   have R2:E _:=gm aW (λi hi=>(eH g hi).1) ((Kept.trans aI.o bI).trans (ez 0 0 _ _)) yad;clear bF aW bT a6 g bI cf aJ aI;go_wp2;go_roundw;exact⟨j+1,by omega,by go_num,R1,R2⟩;simp[intOf];omega
  obtain rfl:j=ab:=xaa;obtain⟨a,cap,C,rfl,ay,a0⟩:=AR.ss hP.o;have R1:E _:=ay
  have R2:E (∀i,i<j->gC _ ((fV _ _ _).getD (outs.getD i 0).toNat _)):=λi hi=>by
   rw[<-Az _ _ xaa]
   exact a0 i hi
  have R3:E _:=Kept.trans HK.o (Kept.trans bO.o aI.o);clear ay a0 hP aI;go_wp2;go_ret2
  exact⟨a,_,_,rfl,R1.o,R2.o,R3.o⟩
def lw(xs:List Int)(i:Nat):Nat:=if xs.length=0 then 0 else (xs.getD (i%xs.length) 0).toNat
theorem Jo(h:YS w a n xs)(i):lw xs i<256:=by
 unfold lw;split
 ·omega
 rename_i al;have am:i%xs.length<xs.length:=Nat.mod_lt _ xaa;rw[yai,yam am];have:=h.lt _ (List.getElem_mem am);show(xs[i%xs.length]).toNat<256;omega
theorem Qj{cap}(h:YS w a n xs)(ad:n<=1048576)(i:Nat):
  Calls prog 24 #[.slice a n cap,hA i] w λe B=>e=.returned (hA (lw xs i:Int))/\B=w:=by
 have af:=h.len;by_cases al:n=0
 ·have HR:E ((lw xs i:Int)=0):=by show _=_;unfold lw;rw[hD xaa];rfl
  have aO:(n:Int)<=0:=xaa;clear h af al;exact xht
 have am:i%n<n:=Nat.mod_lt _ xaa
 obtain⟨g,off,rfl,ah⟩:∃g off,a=some ⟨g,off,none⟩/\w.cell? ⟨g,off+i%n,none⟩=some (.int .u8 (xs.getD (i%n) 0)):=by
  rcases h.at_ with q|⟨g,off,e,h3,a6⟩
  ·exact absurd q al
  exact⟨g,off,e,a6 _ am⟩
 have hb:0<=xs.getD (i%n) 0/\xs.getD (i%n) 0<256:=by
  rw[yai,yam xaa];exact h.lt _ (List.getElem_mem _)
 have HR:E ((lw xs i:Int)=xs.getD (i%n) 0):=by show _=_;unfold lw;rw[hC xaa,af];omega
 have f:(i:Int).tmod (n:Int)=((i%n:Nat):Int):=rfl;have l:(i:Int)%n=((i%n:Nat):Int):=by rw[Int.natCast_emod]
 obtain⟨bc,ao⟩:=hb;generalize xs.getD (i%n) 0=x at ah bc ao HR;generalize i%n=j at am ah f l;clear h af;exact xht
theorem lS{a1 U a3 Z c1 n2 c2 ab c3}(N:w.ownsRow J 62 6 (.slice U n2 c2) n2 (fF vs))(af:vs.length=n2)(ad:n2<=2000)(bA:∀k,k<n2->1<=(vs.getD k hF).len/\(vs.getD k hF).len<=1000):
  Calls prog 10 #[eZ a1 Z c1 U n2 c2 a3 ab c3] w λe B=>e=.returned (hA (eU vs))/\Kept 0 0 w B:=by
 have bq:=ez 0 0 w (e9 a1 Z c1 U n2 c2 a3 ab c3);have HO:E _:=eO N bq
 have aC:(w.alloc (e9 a1 Z c1 U n2 c2 a3 ab c3)).cell? ⟨w.heap.size,1,none⟩=some (.slice U n2 c2):=by
  obtain⟨_,_,aQ,_⟩:=fB w (.slice a1 Z c1) (.slice U n2 c2) (.slice a3 ab c3);exact aQ
 have HK:E _:=bq;have HL:E _:=bA;have f:E (vs.length=n2):=af;clear N bq bA af;go_enter func10,ntmps10;go_wp2_with fail;generalize w.alloc (e9 a1 Z c1 U n2 c2 a3 ab c3)=W at HO aC HK⊢;go_loopw [3,4] (λco cg I=>∃k:Nat,k<=n2/\co=hA (eU (vs.take k))/\cg=hA k/\E (0<=eU (vs.take k)/\eU (vs.take k)<=1000*k)/\I=W) (λ_ cg _=>n2-(intOf cg).toNat)
 case atStart=>exact⟨0,yae,rfl,rfl,by show 0<=eU []/\_;simp[eU],rfl⟩
 case round=>
  obtain⟨k,O,rfl,rfl,hb,rfl⟩:=hrel;by_cases aG:k<n2
  ·obtain⟨g,ce,aK,_,b8,a7⟩:=jN HO.o f.o aG;cases aK;have aP:=a7.c1;have aO:=HL.o k aG;have aV:E (eU (vs.take (k+1))=eU (vs.take k)+(vs.getD k hF).len):=me (hL f.o aG);have Q:=hb.o;generalize (vs.getD k hF).len=z at aP aO aV;generalize eU (vs.take k)=y at hb Q aV⊢;obtain⟨ao,Y⟩:=Q;obtain⟨h,i⟩:=aO;clear a7 hb;go_wp2;go_roundw;exact⟨k+1,by omega,by rw[aV.o],by go_num,by show _/\_;rw[aV.o];omega,trivial⟩;simp[intOf];omega
  have e:k=n2:=xaa;have aV:E (vs.take k=vs):=yap (hN f.o);clear e;go_wp2;go_ret;refine⟨?_,HK.o⟩;rw[congrArg eU aV.o];rfl
def Fj(ins:List Int):Nat->Nat
 |0=>0
 |j+1=>Fj ins j+(ins.getD j 0).toNat
def inW(ys:List Int)(p:Nat):Nat:=
 if lw ys p%16=9 then cop .quo (floatOfInt .f64 ((lw ys p:Int)%7-3)) 4613937818241073152
 else if lw ys p=250 then cop .quo 4607182418800017408 0
 else if lw ys p=251 then cop .quo 0 0
 else if lw ys p=252 then Op.negFloat .f64 0
 else if lw ys p=253 then cop .mul 9214871658872686752 (floatOfInt .f64 ((lw ys p:Int)%7-3))
 else floatOfInt .f64 ((lw ys p:Int)%7-3)
def AC(ys:List Int)(q n:Nat):List Nat:=(List.range n).map λk=>inW ys (q+k)
def inN(ys ins:List Int):List (List Nat):=(List.range ins.length).map λj=>AC ys (Fj ins j) (ins.getD j 0).toNat
theorem Fk(bJ q n):AC bJ q (n+1)=AC bJ q n++[inW bJ (q+n)]:=by
 simp_all[AC,List.range_succ]
theorem CW(bJ)(h:j<ins.length):(inN bJ ins).getD j []=AC bJ (Fj ins j) (ins.getD j 0).toNat:=by
 unfold inN;grind
theorem Fl{xs x y}(h:gC xs bJ)(e:fb x=fb y):gC (xs++[x]) (bJ++[y]):=by
 unfold gC at*;simp[h,e]
theorem SS.words(f:SS w a n r):jf r:=λk x an=>by
 by_cases c:k<n
 ·rcases f.at_ with z|⟨g,off,_,_,h⟩
  ·omega
  ·obtain⟨b,c,_,_,aa⟩:=h k c
   exact aa.lt x an
 ·rw[yai,List.getElem?_eq_none (hN f.len)]at an
  cases an
theorem Jp{aj z bD T v rs H R'}(h:w.ownsRow J T 1 v n (rs.map (Value.float .f64)++[.float .f64 z]))(au:gC rs H/\rs.length=aj/\∀x∈rs,x<18446744073709551616)(K:R'=H++[bD])(e:fb z=fb bD)(bv:z<18446744073709551616):
  ∃l:List Nat,w.ownsRow J T 1 v n (l.map (Value.float .f64))/\gC l R'/\l.length=aj+1/\∀x∈l,x<18446744073709551616:=by
 refine⟨rs++[z],by grind,by rw[K];exact Fl au.1 e,by grind,λx an=>?_⟩;grind
theorem My{cm bJ}(f:IS w lo hi' a n ins)(bN:YS w b bb bJ)(am:bb<=1048576)(ad:n<=21)(af:∀j,j<n->1<=ins.getD j 0/\ins.getD j 0<=1000):
  Calls prog 8 #[.slice a n bh,.slice b bb cm,.bool true] w λe B=>∃ag cap y,e=.returned (.slice ag n cap)/\SS B ag n y/\(∀j,j<n->gC (y.getD j []) ((inN bJ ins).getD j []))/\Kept 0 0 w B:=by
 obtain⟨bW,hi,b4,b3,b0⟩:=info_parts Co;obtain⟨ch,S,U,Y,Z⟩:=info_parts yx;have HF:E _:=f;have b9:E _:=bN;have HL:E _:=af;have bm:E _:=f.len;have f1:=@jX prog;have f2:=@lM prog;have f3:=lF;clear f bN af;go_enter func8,ntmps8;go_wp2_with fail;go_loopw [8,9,10] (λu p i W=>∃k q:Nat,k<=n/\q<=1000*k/\i=hA k/\p=hA q/\E (q=Fj ins k)/\E (AR W w.heap.size u k (inN bJ ins))/\E (Kept 0 0 w W)) (λ_ _ i _=>n-(intOf i).toNat)
 case atStart=>exact⟨0,0,yae,yae,rfl,rfl,rfl,AR.nil _ _ _,Kept.refl _ _ _⟩
 case round=>
  obtain⟨az,F⟩:∃az,az=wr:=⟨_,rfl⟩
  subst F;obtain⟨k,q,O,ap,rfl,rfl,Q,a2,aI⟩:=hrel;by_cases aG:k<n
  ·rcases (HF.o.keep aI.o yaa).at_ with bD|⟨g,off,b5,aQ,a8,bi,bk⟩
   ·omega
   cases b5;have di:=HL.o k aG;obtain⟨m,z⟩:∃m:Nat,ins.getD k 0=m:=⟨(ins.getD k 0).toNat,by omega⟩
   have bE:E ((inN bJ ins).getD k []=AC bJ q m):=by
    show _=_;rw[CW _ (hL bm.o aG),z,Q.o];rfl
   have ae:E (Fj ins (k+1)=q+m):=by show Fj ins k+_=_;rw[z,Q.o];rfl
   have al:E (az.cell? _=some (.int _ m)/\g<az.heap.size):=⟨by rw[<-z];exact bk k aG,bi⟩
   rw[z]at di;have a5:m<=1000:=xaa;have N:E (1<=m):=by show 1<=m;omega
   obtain⟨us,(ah:E _),(aJ:E _)⟩:=a2.o;clear aQ a8 bi bk di z a2;have bP:=al.o.1;go_wp2_with fail;clear bP;go_loopw [9,11,12] (λp v j W=>∃(aj:Nat) (rs:List Nat),aj<=m/\p=hA ((q:Int)+aj)/\j=hA aj/\E (W.ownsRow az.heap.size 57 1 v aj (rs.map (Value.float .f64)))/\E (gC rs (AC bJ q aj)/\rs.length=aj/\∀x∈rs,x<18446744073709551616)/\E (Kept 0 0 az W)) (λ_ _ j _=>m-(intOf j).toNat)
   case atStart=>exact⟨0,[],yae,by simp,rfl,yaw _ _ _ _,⟨rfl,rfl,λx an=>by cases an⟩,Kept.refl _ _ _⟩
   case round=>
    obtain⟨aj,rs,a9,rfl,rfl,aZ,K,P⟩:=hrel;have X:=P.o.cell (p:=⟨g,off+k,none⟩) al.o.2 (by show ¬(0<=g/\g<0);omega);rw[al.o.1]at X;by_cases b1:aj<m
    ·have aV:E (Calls _ _ #[.slice b _ cm,.int _ (q+aj)] _ λe B=>e=.returned _/\wr=B):=(Qj (b9.o.keep (aI.o.trans P.o)) am _).mono λ_ _ h=>⟨h.1,h.2.symm⟩
     have o:=Jo b9.o (q+aj);have ao:E _:=Fk bJ q aj;obtain⟨bD,bv⟩:∃bD,inW bJ (q+aj)=bD:=⟨_,rfl⟩
     rw[bv]at ao;unfold inW at bv;have s:E _:=bv.symm;clear bv;generalize lw _ _=t at aV o s;have a6:=aZ.o;have bX:=P.o.size;clear aZ;rcases (by omega:t%16=9\/t=250\/t=251\/t=252\/t=253\/(t%16≠9/\t≠250/\t≠251/\t≠252/\t≠253)) with c|c|c|c|c|c
     case' inl=>have bq:E _:=s.o;rw[hD c]at bq
     case' inr.inl=>have bq:E _:=s.o;rw[hC xaa,hD c]at bq
     case' inr.inr.inl=>have bq:E _:=s.o;rw[hC xaa,hC xaa,hD c]at bq
     case' inr.inr.inr.inl=>have bq:E _:=s.o;rw[hC xaa,hC xaa,hC xaa,hD c]at bq
     case' inr.inr.inr.inr.inl=>have bq:E _:=s.o;rw[hC xaa,hC xaa,hC xaa,hC xaa,hD c]at bq
     case' inr.inr.inr.inr.inr=>have bq:E _:=s.o;rw[hC xaa,hC xaa,hC xaa,hC xaa,hC xaa]at bq;obtain⟨c,c2,c3,c4,c5⟩:=c
     all_goals
      clear s
      go_wp2_with (first
       |(go_at_call 24;refine yaj aV.o ?_;rintro _ _ ⟨rfl,rfl⟩)
       |(at_builtin;refine wpList_append_lies _ rfl _ _ 55 rfl az.heap.size 57 ch (.float .f64 0) 1 8 underlying55 S U Y Z rfl xab _ _ (rs.map (Value.float .f64)) rfl ((eO a6 (eJ 0 0 _ _)).alloc _) ⟨wr.heap.size,0,none⟩ 1 1 [.float .f64 ?_] rfl rfl ?c1 ?c2 xab ?c3 ?c4 ?c5 _ rfl ?_)
       |(at_builtin;refine wpList_append_lies _ rfl _ _ 55 rfl az.heap.size 57 ch (.float .f64 0) 1 8 underlying55 S U Y Z rfl xab _ _ (rs.map (Value.float .f64)) rfl (a6.alloc _) ⟨wr.heap.size,0,none⟩ 1 1 [.float .f64 ?_] rfl rfl ?c1 ?c2 xab ?c3 ?c4 ?c5 _ rfl ?_))
      case c1=>exact cell_one_new _ _ _
      case c2=>intro u aB;simp at aB;subst aB;rfl
      case c3=>unfold maxLen;omega
      case c4=>omega
      case c5=>simp;omega
      intro g9 cap9 bj bF aW bT _
      obtain⟨l,(R1:E _),(R3:E _)⟩:=Jp bF K.o ao.o (by have aP:=congrArg fb bq.o.symm;first|exact aP|exact(gl _ _ _ _).trans aP|(subst c;exact(gl _ _ _ _).trans aP)) (by first|exact gJ _ _ _ _|exact qr _|exact mW xab)
      have R2:E _:=gm aW (λi hi=>(eH a6 hi).1) (by first|exact P.o.trans (ez 0 0 _ _)|exact(P.o.trans (ez 0 0 _ _)).trans (eJ 0 0 _ _)) yad
      clear bF aW bT a6 aV P bq ao
      go_wp2
      go_roundw;exact⟨aj+1,l,by omega,by go_num,by go_num,R1,R3,R2⟩;simp[intOf];omega
    obtain rfl:aj=m:=xaa;have a6:=aZ.o;obtain⟨(ai:E _),I,aA⟩:=K.o;obtain⟨G,cap,rfl,R,aS,aa⟩:=FO.of_own a6 (hJ N.o) I aA;clear I aA K;have C:=eO ah.o P.o;have bX:=(aI.o.trans P.o).size;have aK:E _:=aa;clear aZ a6;go_wp2_with (first|(at_builtin;refine wpList_append_lies _ rfl _ _ _ rfl _ 55 _ _ 1 _ underlying36 hi b4 b3 b0 rfl xab _ _ _ rfl (C.alloc _) _ 1 1 [hz G aj cap] rfl rfl ?c1 ?c2 xab ?c3 ?c4 ?c5 _ rfl ?_))
    case c1=>exact cell_one_new _ _ _
    case c2=>intro u aB;simp at aB;subst aB;rfl
    case c3=>unfold maxLen;omega
    case c4=>omega
    case c5=>simp;omega
    intro g9 cap9 bj bF aW bT _
    have R1:E (AR _ _ _ _ _):=
     AR.step C (pd aJ.o P.o) ⟨_,_,_,_,rfl,aS,aK.o.fs,ai.o⟩ (λ_ p aM c=>by
      cases aM
      have:=(eH ah.o (k:=G) c).2
      omega) bF aW (by rcases bT with h|h;exact .inl h;exact .inr (by rw[h];simp)) (λj hj=>rfl) bE.o
    have R2:E _:=gm aW (λi hi=>(eH C hi).1) ((aI.o.trans P.o).trans (ez 0 0 _ _)) yad;clear bF aW bT C P aJ ah aI R aS aa aK;go_wp2;go_roundw;exact⟨k+1,q+aj,by omega,by omega,by go_num,by go_num,ae.o.symm,R1,R2⟩;simp[intOf];omega
  obtain rfl:k=n:=xaa;obtain⟨ag,cap,y,rfl,(H:E _),(R3:E _)⟩:=a2.o.ss;clear a2;go_wp2;go_ret;exact⟨_,_,_,rfl,H.o,R3.o,aI.o⟩
def InO(w:World)(ys ins:List Int)(e:Ending)(w':World):Prop:=
 ∃ia ic xss,e=.returned (.slice ia ins.length ic)/\(SS w' ia ins.length xss/\jf xss/\inB ins xss=true/\∀j,gC (xss.getD j []) ((inN ys ins).getD j []))/\Kept 0 0 w w'
theorem Mz{cm bJ}(f:IS w lo hi' a ins.length ins)(bN:YS w b bb bJ)(am:bb<=1048576)(ad:ins.length<=20)(af:ins.all lenB=true):
  Calls prog 8 #[.slice a ins.length bh,.slice b bb cm,.bool true] w (InO w bJ ins):=by
 have aO:∀j,j<ins.length->_:=λj hj=>of_decide_eq_true (List.all_eq_true.1 af (ins.getD j 0) (by simp_all));refine(My f bN am xaa aO).mono ?_;rintro e B ⟨ap,bG,r,F,N,h3,a6⟩;refine⟨_,_,_,F,⟨N,N.words,?_,λj=>?_⟩,a6⟩
 ·unfold inB;rw[N.len,decide_eq_true rfl,Bool.true_and,List.all_eq_true];intro j hj;have hj:=List.mem_range.1 hj;grind[i7,CW,AC,List.length_map]
 by_cases c:j<ins.length
 ·exact h3 j c
 rw[yai,List.getElem?_eq_none (hN N.len),yai,List.getElem?_eq_none (by simp[inN];omega)];rfl
end
section
theorem W0n(s){r}(al:0<r)(h:r<=9218868437227405312):(FloatKind.f64.format.order (W s r) 0==some .eq)=false:=by
 rw[show FloatKind.f64.format.order _ 0=_ from sK al h];cases s<;>rfl
theorem O7(x y w)(an:x<18446744073709551616)(bN:y<18446744073709551616):
  Calls prog 69 #[.float .f64 x,.float .f64 y] w λe B=>e=.returned (.bool ((fb x:Int)==(fb y:Int)))/\B=w:=by
 obtain⟨s,r,aD,rfl⟩:=mT x an;obtain⟨t,q,ap,rfl⟩:=mT y bN;clear an bN;by_cases F:r<=9218868437227405312
 ·have Z:=pU (s:=s) F;by_cases N:q<=9218868437227405312
  ·have n2:=pU (s:=t) N;rw[wk F,wk N,Pi aD ap];by_cases bv:r=0/\q=0
   ·obtain⟨rfl,rfl⟩:=bv;have a1:FloatKind.f64.format.order (W s 0) 0=some _:=mA;have U:FloatKind.f64.format.order (W t 0) 0=some _:=mA;have R:=λw=>run_float_arith (P:=prog) w .quo 57 .f64 _ (W s 0) _ pw;have aS:=λw=>run_float_arith (P:=prog) w .quo 57 .f64 _ (W t 0) _ pw;have c1:FloatKind.f64.format.order (W s 9218868437227405312) 0=some _:=sK xaa xaa;have c2:FloatKind.f64.format.order (W t 9218868437227405312) 0=some _:=sK xaa xaa;cases s<;>cases t
    all_goals
     go_enter func69,ntmps69
     go_wp2
     go_ret
     exact⟨rfl,rfl⟩
   have au:(FloatKind.f64.format.order (W s r) (W t q)==some _)=_:=AJ F N
   rw[show decide _=decide (r=q/\s=t) by
    rw[Bool.eq_iff_iff];simp only[decide_eq_true_eq];constructor
    ·rintro⟨a,b|b⟩
     ·exact⟨a,b⟩
     exact absurd ⟨b,by omega⟩ bv
    rintro⟨a,b⟩;exact⟨a,.inl b⟩]at au
   generalize decide (r=q/\s=t)=D at au⊢;by_cases cI:r=0
   ·have g:0<q:=xaa;subst cI;have a1:FloatKind.f64.format.order (W s 0) 0=some _:=mA;have U:=W0n t g N;exact xic
   have a1:=W0n s (by omega:0<r) F;exact xic
  have n2:=si (s:=t) (by omega:9218868437227405312<q) ap;rw[wk F,wm xaa ap,show(((9221120237041090560:Nat)):Int)=9221120237041090560 from rfl,(yv F).1];exact xdo
 have Z:=si (s:=s) (by omega:9218868437227405312<r) aD;by_cases N:q<=9218868437227405312
 ·have n2:=pU (s:=t) N;rw[wk N,wm xaa aD,show(((9221120237041090560:Nat)):Int)=9221120237041090560 from rfl,(yv N).2];exact xdo
 have n2:=si (s:=t) (by omega:9218868437227405312<q) ap;rw[wm xaa aD,wm xaa ap,show(((9221120237041090560:Nat):Int)==(9221120237041090560:Nat))=true from beq_self_eq_true _];exact xdo
end
section
attribute[local go_sem] eF eE eD
theorem Fm(w a b n c d xs bJ)(aK:FS w 0 w.heap.size a n xs)(bd:FS w 0 w.heap.size b n bJ)(au:gC xs bJ)(ad:n<=1000000):
  Calls prog 39 #[.slice a n c,.slice b n d] w λe B=>e=.returned (.bool true)/\Kept 0 0 w B:=by
 have bl:E _:=aK;have av:E _:=bd;have ao:E _:=au;clear aK bd au;go_enter func39,ntmps39;go_wp2_with fail;go_loopw [5] (λi W=>∃k:Nat,k<=n/\i=hA k/\E (Kept 0 0 w W)) (λi _=>n-(intOf i).toNat)
 case atStart=>exact⟨0,yae,rfl,Kept.refl _ _ _⟩
 case round=>
  obtain⟨k,O,rfl,aI⟩:=hrel;by_cases aG:k<n
  ·rcases (FS.keep0 bl.o aI.o).at_ with z|⟨g,off,rfl,_,_,_,a6⟩
   ·omega
   rcases (FS.keep0 av.o aI.o).at_ with z|⟨aq,aQ,rfl,_,_,_,f⟩
   ·omega
   have bh:=a6 k aG;have cb:=f k aG
   have HF:E _:=λW=>by
    have:=O7 (xs.getD k 0) (bJ.getD k 0) W (gI bl.o.lt k) (gI av.o.lt k)
    rw[gQ ao.o k,beq_self_eq_true]at this
    exact this
   generalize xs.getD k 0=x at bh HF;generalize bJ.getD k 0=y at cb HF;clear a6 f;go_wp2_with fail;go_region_with (go_at_call 69;refine yaj (HF.o _) ?_;rintro e bp ⟨rfl,rfl⟩)
   all_goals
    go_wp2
    go_roundw;exact⟨k+1,by omega,by go_num,Kept.drew aI.o⟩;simp[intOf];omega
  obtain rfl:k=n:=xaa;go_wp2;go_ret;exact⟨rfl,aI.o⟩
theorem BS(w a b n c d r C)(aK:SS w a n r)(bd:SS w b n C)(au:∀k,k<n->gC (r.getD k []) (C.getD k [])/\(r.getD k []).length<=1000000)(ad:n<=1000000):
  Calls prog 13 #[.slice a n c,.slice b n d] w λe B=>e=.returned (.bool true)/\Kept 0 0 w B:=by
 have bl:E _:=aK;have av:E _:=bd;have ao:E _:=au;clear aK bd au;go_enter func13,ntmps13;go_wp2_with fail;go_loopw [5] (λi W=>∃k:Nat,k<=n/\i=hA k/\E (Kept 0 0 w W)) (λi _=>n-(intOf i).toNat)
 case atStart=>exact⟨0,yae,rfl,Kept.refl _ _ _⟩
 case round=>
  obtain⟨k,O,rfl,aI⟩:=hrel;by_cases aG:k<n
  ·rcases (SS.keep bl.o aI.o).at_ with z|⟨g,off,rfl,_,a6⟩
   ·omega
   rcases (SS.keep av.o aI.o).at_ with z|⟨aq,aQ,rfl,_,f⟩
   ·omega
   obtain⟨p,q,bh,_,aK⟩:=a6 k aG;obtain⟨u,j,cb,_,bd⟩:=f k aG;obtain⟨au,af⟩:=ao.o k aG;rw[<-i7 au]at cb bd;have HF:E _:=λW bJ=>Fm W p _ _ q j _ _ (FS.keep0 aK bJ) (FS.keep0 bd bJ) au af;generalize (r.getD k _).length=m at bh cb HF;clear a6 f aK bd au af;go_wp2_with fail;go_region_with (go_at_call 39;refine yaj (HF.o _ (eG _)) ?_;rintro e bp ⟨rfl,bQ⟩;replace aI:E _:=aI.o.trans ((eG _).trans bQ);clear bQ)
   all_goals
    go_wp2
    go_roundw;exact⟨k+1,by omega,by go_num,by first|exact aI|exact Kept.drew aI.o⟩;simp[intOf];omega
  obtain rfl:k=n:=xaa;go_wp2;go_ret;exact⟨rfl,aI.o⟩
