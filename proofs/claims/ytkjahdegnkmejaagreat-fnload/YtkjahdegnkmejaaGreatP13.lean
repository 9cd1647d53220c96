import Derived.Test.YtkjahdegnkmejaaGreatP12
namespace Go.Proofs.Z
open Tryz Go.RowKit Flt
set_option maxRecDepth 1000000
set_option maxHeartbeats 0
section
attribute[local go_sem] eE eC eB
variable{w O:World}{ts:List Tok}{af:List (List UInt8)}
def RlT(w:World)(ss:List (List UInt8))(e:Ending)(w':World):Prop:=(ss=[]/\e=.returned (.slice none 0 0)/\w'=w)\/(ss≠[]/\e=.returned (.slice (some ⟨w.heap.size,0,none⟩) ss.length ss.length)/\w'=w.alloc (.cells (ss.map λl=>eL l).toArray 9))
theorem O0(l h):(((⟨l.toArray⟩:ByteArray)[0]'h).toNat:Int)=bt l 0:=by
 cases l with
 |nil=>simp[ByteArray.size]at h
 |cons a r=>rfl
theorem Fj(l w):Calls prog 111 #[eL l] w λe O=>e=.returned (.bool (jA l))/\O=w:=by
 have aw:=fX l;have bK:=O0 l;unfold jA;generalize bt l 0=x at bK⊢;cases aW:decide (1<l.length)
 ·have t:¬((1:Int)<l.length):=by simp at aW;omega
  go_enter func111,ntmps111;go_wp2;go_ret;exact⟨rfl,rfl⟩
 have aj:1<l.length:=by simpa using aW
 have B:0<l.length:=xaa;have t:(1:Int)<l.length:=xaa;cases bd:decide (65<=x)<;>(go_enter func111,ntmps111;go_wp2;go_ret;exact⟨rfl,rfl⟩)
theorem Jh(s w):Calls prog 122 #[eL s] w (RlT w (kL s)):=by
 by_cases h:s∈UL
 ·simp only[UL,List.mem_cons,List.not_mem_nil,or_false]at h;rcases h with rfl|rfl|rfl|rfl|rfl|rfl|rfl|rfl|rfl|rfl|rfl|rfl|rfl|rfl<;>(go_enter func122,ntmps122;go_wp2;go_ret;exact .inr ⟨by decide,rfl,rfl⟩)
 rw[wb h];simp only[UL,List.mem_cons,List.not_mem_nil,or_false,not_or,<-beq_eq_false_iff_ne]at h;obtain⟨_,_,_,_,_,_,_,_,_,_,_,_,_,_⟩:=h;go_enter func122,ntmps122;go_wp2;go_ret;exact .inr ⟨by decide,rfl,rfl⟩
theorem MN(p s w):Calls prog 112 #[eL p,eL s] w (RlT w (gh p s)):=by
 by_cases h:p∈PQ
 ·have ab:=@EE p s h;simp only[PQ,List.mem_cons,List.not_mem_nil,or_false]at h;by_cases aw:s∈RL
  ·clear ab;simp only[RL,List.mem_cons,List.not_mem_nil,or_false]at aw;rcases h with rfl|rfl|rfl|rfl|rfl|rfl|rfl|rfl|rfl|rfl<;>rcases aw with rfl|rfl|rfl|rfl|rfl|rfl|rfl|rfl|rfl|rfl|rfl|rfl|rfl<;>(go_enter func112,ntmps112;go_wp2;go_ret;first|exact .inl ⟨rfl,rfl,rfl⟩|exact .inr ⟨by decide,rfl,rfl⟩)
  rw[ab aw];clear ab;simp only[RL,List.mem_cons,List.not_mem_nil,or_false,not_or,<-beq_eq_false_iff_ne]at aw;obtain⟨_,_,_,_,_,_,_,_,_,_,_,_,_⟩:=aw;rcases h with rfl|rfl|rfl|rfl|rfl|rfl|rfl|rfl|rfl|rfl<;>(go_enter func112,ntmps112;go_wp2;go_ret;first|exact .inl ⟨rfl,rfl,rfl⟩|exact .inr ⟨by decide,rfl,rfl⟩)
 rw[ED s h];simp only[PQ,List.mem_cons,List.not_mem_nil,or_false,not_or,<-beq_eq_false_iff_ne,iq,kV,gl,gD,fS,jY,fK,pY,nA,gV]at h;obtain⟨_,_,_,_,_,_,_,_,_,_⟩:=h;have bu:V _:=Jh s w;generalize kL s=us at bu;go_enter func112,ntmps112;go_wp2_with fail;go_at_call 122
 refine yaj bu.o ?_;rintro e aK (⟨rfl,rfl,rfl⟩|⟨B,rfl,rfl⟩)
 ·go_wp2;go_ret;exact .inl ⟨rfl,rfl,rfl⟩
 have aT:V (us≠[]):=B;clear B;go_wp2;go_ret;exact .inr ⟨aT.o,rfl,rfl⟩
theorem WB.pop{W I a n cap x}(h:WB W I (.slice a n cap) (af++[x])):WB W I (.slice a af.length cap) af:=by
 unfold WB at*;have ag:(af++[x]).length=af.length+1:=by simp
 rw[ag]at h;refine⟨by simp,?_⟩;rcases h.2 with⟨_,c⟩|⟨g,c,ao,e,R,a6,U,bZ,ct,b2⟩
 ·omega
 cases e;refine .inr ⟨g,_,_,rfl,R,a6,by omega,bZ,ct,?_⟩;have:ao.toList.take (af.length*1)=(ao.toList.take ((af.length+1)*1)).take af.length:=by grind
 simp_all
theorem MO(st):st.length<=wts st:=by
 induction st<;>grind[Ar,wts]
theorem O1(s):wt s<=7:=by
 grind[wt]
theorem MP(st):wts st<=7*st.length:=by
 induction st<;>grind[wts,O1]
theorem O2(st):mu st<=7*st.length+1:=by
 grind[MP,mu]
theorem sX{s st}(h:Aq st=false):g7 s st=st:=by
 cases st with
 |nil=>exact mU s
 |cons p r=>exact lL h
theorem sY(s):gh lA s=kL s:=rfl
theorem uR(s):gh jY s=[lA,fK]:=rfl
theorem uS(s):gh gD s=[jY,fS]:=rfl
theorem wE(s r):g7 s (lA::r)=kL s++r:=by
 rw[iG xab,sY,sX (uJ s r)]
theorem ro(s r):g7 s (jY::r)=kL s++fK::r:=by
 rw[iG xab,uR];exact wE s _
theorem rp(s r):g7 s (gD::r)=kL s++fK::fS::r:=by
 rw[iG xab,uS];exact ro s _
theorem pz(s st):(g7 s st).length<=st.length+10:=by
 match st with
 |[]=>rw[mU];simp
 |p::r=>
  cases h:jA p
  ·rw[lL h];omega
  have G:=(uK s).2;rcases sJ p s r with c|c|⟨e,c⟩|⟨e,c⟩|⟨e,c⟩
  ·rw[iG h,c,List.nil_append];have:=pz s r;rw[yaq];omega
  ·rw[iG h,sX c,yal,yaq];have:=yj p s;omega
  ·rw[e,rp,yal];simp only[yaq];omega
  ·rw[e,ro,yal];simp only[yaq];omega
  rw[iG h,c];show(g7 s (gD::gV::r)).length<=_;rw[rp,yal];simp only[yaq];omega
termination_by st.length
theorem MQ(w:World)(l):WC (w.alloc (.cells #[eL l] 9)) ⟨w.heap.size,0,none⟩ [l]:=by
 intro j x e;grind[il,yav]
theorem WB.form{W I v}(f:WB W I v af):∃a cap,v=.slice a af.length cap:=by
 rcases f.2 with⟨e,c⟩|⟨g,cap,ao,e,_⟩<;>grind
theorem RlT.uni{e}(h:RlT w af e O):∃bM ad m,e=.returned (.slice bM m m)/\af.length=m/\(0<m->bM=some ⟨ad,0,none⟩)/\ad=w.heap.size/\(0<m->ad<O.heap.size)/\(∀q,q<m->O.cell? ⟨ad,q,none⟩=some (eL (af.getD q [])))/\Kept 0 0 w O:=by
 rcases h with⟨rfl,rfl,rfl⟩|⟨_,rfl,rfl⟩
 ·grind[Kept.refl]
 refine⟨_,_,_,rfl,rfl,λ_=>rfl,rfl,λ_=>by simp,λq am=>?_,eA 0 0 w _⟩;simp_all
theorem Fk(w I v st s)(f:WB w I v st.reverse)(aZ:I<=w.heap.size)(hn:st.length<=60000):
  Calls prog 99 #[v,eL s] w λe O=>∃v',e=.returned v'/\WB O I v' (g7 s st).reverse/\Chg (λb=>I<=b) w O:=by
 have aO:V _:=f;have aw:V _:=λp W=>MN p s W;have b1:V _:=Fj;have ao:V _:=aZ;have Z:V (mu st<=420001):=by have:=O2 st;show _<=_;omega
 obtain⟨E,bY⟩:∃E,E=g7 s st:=⟨_,rfl⟩
 rw[<-bY];have HE:V _:=bY.symm;clear f aZ bY;go_enter func99,ntmps99;go_wp2_with fail;go_loopg [0] (mu st) (λm u W=>∃R,mu R=m/\V (m<=420001)/\R.length<=420010/\V (WB W I u R.reverse)/\V (Chg (λb=>I<=b) w W)/\V (g7 s R=E))
 case atStart=>exact⟨_,rfl,Z,by omega,aO,(Kept.refl 0 0 w).chg,HE⟩
 case round=>
  obtain⟨R,(J:V _),aD,ag,X,bn,a5⟩:=hrel;cases R with
  |nil=>
   obtain⟨a,cap,rfl⟩:=WB.form X.o;have H:V _:=(mU s).symm.trans a5.o;rw[show(([]:List _).reverse).length=0 from rfl];go_wp2_with fail;go_ret;exact⟨_,rfl,jv H.o X.o,bn.o⟩
  |cons p r=>
   obtain⟨g,cap,G,bB,bx,ai,y⟩:=WB.at_ X.o xac;have a6:((p::r).reverse).length=r.length+1:=by simp
   rw[a6]at G y;subst G
   have c1:wr.cell? ⟨g,r.length,none⟩=some (eL p):=by
    have:=ai r.length p xac;rwa [il,Nat.zero_add]at this
   have k:V _:=b1.o p wr;have cw:r.length+1<=420010:=by simpa using ag
   clear ai a6 ag;cases aA:jA p
   ·have H:V _:=(lL aA).symm.trans a5.o;rw[aA]at k;clear aA;go_wp2_with (go_at_call 111;refine yaj k.o ?_;rintro e aK ⟨rfl,S⟩;obtain rfl:=S.symm);go_ret;exact⟨_,rfl,jv H.o X.o,bn.o⟩
   have H:V _:=(iG aA).symm.trans a5.o;have P:V (mu (gh p s++r)<gk):=by rw[<-J.o];exact Bt p s r aA
   have z:V (r.length+(gh p s).length<=420010):=by
    have B:mu (p::r)=wt p+wts r+1:=by unfold mu Aq;rw[iv aA];rfl
    have N:=MO r;have h3:=yj p s;have bp:=J.o;have bU:=aD.o;have bz:=Ar p;show _<=_;omega
   rw[aA]at k;have Q:V _:=aw.o p wr;generalize gh p s=d at P z Q H
   have F:V (WB wr I (ia g r.length cap) r.reverse):=by
    have h:=WB.pop (by have:=X.o;rw[List.reverse_cons]at this;exact this);rw[List.length_reverse]at h;exact h
   clear aA X a5 J
   go_upto_region 3 with (first
    |(go_at_call 111;refine yaj k.o ?_;rintro e aK ⟨rfl,S⟩;obtain rfl:=S.symm)
    |(go_at_call 112;refine yaj Q.o ?_;intro e ak b8;obtain⟨bM,ad,m,rfl,Y,aa,ax,ae,ah,aC⟩:=RlT.uni b8))
   have au:V _:=WB.keep F.o aC;have cC:V _:=Chg.andThen bn.o aC.chg;have U:V ((0<m->ad<ak.heap.size)/\∀q,q<m->ak.cell? _=some _):=⟨ae,ah⟩
   have C:V _:=Y;have al:g≠ad:=xaa;have b9:=aC.size;have ar:V (I<=ak.heap.size):=by show _<=_;omega
   have aq:V _:=aa;rw[C.o]at z;have ay:=z.o;clear b8 Y aa ax ae ah aC c1 bn F k Q;go_upto_region 5 with fail;go_loopw [0,6] (λu bZ W=>∃j:Nat,j<=m/\bZ=ih ((j:Int)-1)/\V (WB W I u (d.drop j++r).reverse)/\V (Chg (λb=>I<=b) w W)/\V ((0<m->ad<W.heap.size)/\(∀q,q<m->W.cell? ⟨ad,q,none⟩=some (eL (d.getD q [])))/\(∀h,u.ownBlock=some h->h≠ad)/\I<=W.heap.size)) (λ_ bZ _=>(intOf bZ+1).toNat)
   case atStart=>
    refine⟨m,yad,rfl,?_,cC,⟨U.o.1,U.o.2,λh bN=>?_,ar.o⟩⟩
    ·rw[List.drop_eq_nil_of_le (by rw[C.o];exact yad),List.nil_append];exact au
    simp[Value.ownBlock]at bN;omega
   case round=>
    obtain⟨j,hj,rfl,X,bn,bl⟩:=hrel;obtain⟨a,ce,l⟩:=WB.form X.o;subst l;by_cases av:j=0
    ·subst av;rw[List.drop_zero]at X;go_wp2_with fail;go_roundg (mu (d++r))
     case measure=>exact P.o
     case rel=>exact⟨_,rfl,(by show _<=_;have:=P.o;have:=aD.o;omega),by rw[yal,C.o];omega,X,bn,H⟩
    obtain⟨q,rfl⟩:∃q,j=q+1:=⟨j-1,by omega⟩
    have am:q<m:=xaa;obtain rfl:=aq.o xaa;have c2:=bl.o.2.1 q am
    have HD:V (d.drop q=d.getD q []::d.drop (q+1)):=by
     show _=_;rw[List.drop_eq_getElem_cons (jn C.o am),yai,yam (jn C.o am)];rfl
    have a6:(d.drop (q+1)++r).reverse.length<=420010:=by
     rw[List.length_reverse,yal,List.length_drop,C.o];omega
    have cg:V _:=a6;generalize d.getD q _=x at c2 HD;generalize ab:(d.drop _++r).reverse=xs at X a6 cg bl;have t:V _:=ab;generalize b6:xs.length=nn at*;have b2:V _:=b6;clear ab b6;go_wp2_with (first|(at_builtin;refine sV _ rfl _ _ rfl I _ _ rfl (WB.keep X.o (eA 0 0 _ _)) _ 1 1 _ rfl rfl (MQ _ x) xab ?c2 ?c3 ?_)|fail)
    case c2=>have:=cg.o;have:=b2.o;omega
    case c3=>have:=bl.o.2.2.2;simp;omega
    intro g9 cap9 n9 a7 a2 aQ ap bV;have bj:=eA 0 0 wr (.cells #[eL x] 9)
    have R1:V (WB a7 I (ia g9 n9 cap9) (d.drop q++r).reverse):=by
     show WB _ _ _ _;rw[HD.o,List.cons_append,List.reverse_cons,t.o];exact aQ
    have bD:∀b,(Value.slice a _ _).ownBlock=some b->_:=λb hb=>(WB.blk X.o hb).1;have R2:V _:=Chg.andThen (Chg.andThen bn.o bj.chg) ⟨ap.os,ap.tape,ap.output,ap.size,λi hi hn=>ap.block i hi (λc=>hn (bD i c))⟩
    have R3:V ((0<m->ad<a7.heap.size)/\(∀q,q<m->a7.cell? ⟨ad,q,none⟩=some (eL (d.getD q [])))/\(∀h,(ia g9 n9 cap9).ownBlock=some h->h≠ad)/\I<=a7.heap.size):=by
     obtain⟨a1,K,a3,a4⟩:=bl.o;have aj:=a1 xaa;have cN:=ap.size;have cb:(wr.alloc (.cells #[eL x] 9)).heap.size=wr.heap.size+1:=by simp
     refine⟨λ_=>by omega,λq am=>?_,λh bN=>?_,by omega⟩
     ·rw[ap.cell (by show ad<_;omega) (λc=>a3 _ c rfl),bj.cell aj xaa];exact K q am
     simp[Value.ownBlock]at bN;subst bN;rcases bV with c|c
     ·exact a3 _ c
     omega
    clear aQ ap bV bj bD a2;go_wp2_with fail;go_roundw
    case rel=>exact⟨q,by omega,by go_num,R1,R2,R3⟩
    case measure=>simp[intOf]
theorem TkA.keep{g an n}(h:TkA w g an n ts)(k:Kept 0 0 w O):TkA O g an n ts:=
 ⟨h.len,yak h.lt k.size,λj hj=>(k.cell (p:=⟨g,an+j*3,none⟩) h.lt xaa).trans (h.c0 j hj),λj hj=>(k.cell (p:=⟨g,an+j*3+1,none⟩) h.lt xaa).trans (h.c1 j hj),λj hj=>(k.cell (p:=⟨g,an+j*3+2,none⟩) h.lt xaa).trans (h.c2 j hj)⟩
theorem WB.lit1(w:World)(l):WB (w.alloc (.cells #[eL l] 9)) w.heap.size (ia w.heap.size 1 1) [l]:=
 World.ownsRow_lit (base:=w.heap.size) (e:=9) (size:=1) w #[eL l] 1 yad (by unfold maxLen;omega) rfl
theorem Fl{k}(h:k<ts.length):ts.drop k=ts.getD k i1::ts.drop (k+1):=by
 simp_all
theorem uT{W F}(k:Kept 0 0 w W)(c:Chg (λb=>w.heap.size<=b) W F):Kept 0 0 w F:=Chg.kept k c (λ_ h=>h)
theorem wG(w aN)(m cap n:Nat)(ts)(ag:ts.length=m)(aD:m<=5000)(bh:0<m->∃g an,aN=some ⟨g,an,none⟩/\TkA w g an m ts):
  Calls prog 86 #[.slice aN m cap,ih n] w λe O=>e=.returned (ih (fC n ts [iq]))/\Kept 0 0 w O:=by
 have aG:V _:=Fk;have bL:V _:=bh;have HL:V _:=ag;have b4:V (WB _ _ _ [iq].reverse):=WB.lit1 w _;obtain⟨E,bY⟩:∃E,E=fC n ts [iq]:=⟨_,rfl⟩
 rw[<-bY];have HE:V (fC n (ts.drop 0) _=E):=bY.symm;clear bY bh ag;go_enter func86,ntmps86;go_wp2_with fail;change Code.wp _ _ _ _ (w.alloc (.cells #[eL iq] 9));have aA:V _:=eA 0 0 w (.cells #[eL iq] 9);generalize w.alloc _=aK at b4 aA⊢;go_loopw [5,6] (λv G W=>∃(k:Nat) (st:List (List UInt8)),k<=m/\G=ih k/\st.length<=1+10*k/\V (WB W w.heap.size v st.reverse)/\V (Kept 0 0 w W)/\V (fC n (ts.drop k) st=E)) (λ_ G _=>m-(intOf G).toNat)
 case atStart=>grind
 case round=>
  obtain⟨k,st,J,rfl,d8,X,aS,bY⟩:=hrel;by_cases aY:k<m
  ·obtain⟨g,an,rfl,bl⟩:=bL.o xaa;have c0:=(bl.keep aS.o).c0 k aY;have u:V _:=bl;have d:=bY.o;rw[Fl (jn HL.o aY)]at d;have bo:V _:=aG.o _ _ _ _ (ts.getD k i1).sym X.o aS.o.size xaa;have aw:V (∀W,Kept 0 0 w W->W.cell? _=some _/\W.cell? _=some _):=λW al=>⟨(bl.keep al).c0 k aY,(bl.keep al).c1 k aY⟩
   generalize ts.getD k _=aa at c0 d bo aw;have aB:V _:=d;obtain⟨a,ce,l⟩:=WB.form X.o;generalize st.reverse.length=nn at l;have f:=pz aa.sym st;generalize bE:g7 _ _=t at bo f;have bO:V _:=bE;clear bE d bl bY u;subst l;go_upto_region 6 with (go_at_call 99;refine yaj bo.o ?_;rintro e ak ⟨bb,rfl,b,q⟩);have aI:V _:=b;have bN:V _:=uT aS.o q;obtain⟨c1,c2⟩:=aw.o _ bN.o;clear b q c0 bo X aS;cases t with
   |nil=>
    obtain⟨K,j,be⟩:=WB.form aI.o;rw[show(([]:List _).reverse).length=0 from rfl]at be;subst be
    have H:V (aa.pos=E):=by
     have h:=aB.o;rw[fC,bO.o]at h;exact h
    go_quiet (fail)
    have bZ:V _:=Kept.trans bN.o (eJ 0 0 _ nq);obtain⟨aX,bk⟩:=aw.o _ bZ.o;generalize ak.drewN _=aM at bZ aX bk⊢;clear c1 c2;go_wp2_with fail;go_ret;exact⟨congrArg (λz=>Ending.returned (.int _ z)) H.o,bZ.o⟩
   |cons p r=>
    obtain⟨a2,j,be,bB,bx,ai,y⟩:=WB.at_ aI.o xac;have a6:((p::r).reverse).length=r.length+1:=by simp
    rw[a6]at be y;subst be
    have c3:ak.cell? ⟨a2,r.length,none⟩=some (eL p):=by
     have:=ai r.length p xac;rwa [il,Nat.zero_add]at this
    have x:r.length+1<=100000:=by simp at f;omega
    have B:r.length<=10*k+10:=by simp at f;omega
    have bX:((r.length:Int)+1==0)=false:=by simp;omega
    have aV:IntKind.i64.wrap ((r.length:Nat)+1-1)=(r.length:Nat):=by rw[IntKind.wrap_i64];omega
    have bg:(0:Int)<=(r.length:Nat):=xaa;have bq:(r.length:Int)<(r.length:Nat)+1:=xaa;cases am:(p==aa.sym)
    ·have bc:p≠aa.sym:=λc=>by rw[c]at am;simp at am
     have H:V (aa.pos=E):=by
      have h:=aB.o;rw[fC,bO.o]at h;simp only[ip bc]at h;exact h
     have bC:(p !=aa.sym)=true:=by unfold bne;rw[am];rfl
     clear ai a6 f bc;go_quiet (fail)
     have bZ:V _:=Kept.trans bN.o (eJ 0 0 _ nq);obtain⟨aX,bk⟩:=aw.o _ bZ.o;generalize ak.drewN _=aM at bZ aX bk⊢;clear c1 c2 c3;go_wp2_with fail;go_ret;exact⟨congrArg (λz=>Ending.returned (.int _ z)) H.o,bZ.o⟩
    have ay:p=aa.sym:=by simpa using am
    have H:V (fC n (ts.drop (k+1)) r=E):=by
     have h:=aB.o;rw[fC,bO.o]at h;simp only[iv ay]at h;exact h
    have F:V (WB ak w.heap.size (ia a2 r.length j) r.reverse):=by
     have h:=WB.pop (by have:=aI.o;rw[List.reverse_cons]at this;exact this);rw[List.length_reverse]at h;exact h
    have bC:(p !=aa.sym)=false:=by unfold bne;rw[am];rfl
    clear ai a6 f ay aI;go_quiet (fail)
    have bZ:V _:=Kept.trans bN.o (eJ 0 0 _ nq);have aj:V _:=WB.keep F.o (eJ 0 0 _ nq);generalize ak.drewN _=aM at bZ aj⊢;clear c1 c2 c3;go_wp2_with fail;go_roundw;exact⟨k+1,r,by omega,by go_num,by omega,aj,bZ,H⟩;simp[intOf];omega
  obtain rfl:k=m:=xaa;have d:=bY.o;rw[List.drop_eq_nil_of_le (by rw[HL.o];exact yad),fC]at d;have bo:V _:=aG.o _ _ _ _ IQ X.o aS.o.size xaa;have aB:V _:=d;obtain⟨a,ce,l⟩:=WB.form X.o;generalize st.reverse.length=nn at l;have f:=pz IQ st;generalize g7 _ _=t at bo f aB;clear d bY;subst l;go_upto_region 10 with (go_at_call 99;refine yaj bo.o ?_;rintro e ak ⟨bb,rfl,b,q⟩);have aI:V _:=b;have bN:V _:=uT aS.o q;clear b q bo X aS;obtain⟨K,j,be⟩:=WB.form aI.o;cases t with
  |nil=>
   rw[show(([]:List _).reverse).length=0 from rfl]at be;subst be;have H:V ((-1:Int)=E):=by have h:=aB.o;rw[iv rfl]at h;exact h
   go_wp2_with fail;go_ret;exact⟨congrArg (λz=>Ending.returned (.int _ z)) H.o,bN.o⟩
  |cons p r=>
   rw[show((p::r).reverse).length=r.length+1 by simp]at be;subst be;have H:V (n=E):=by have h:=aB.o;rw[ip xac]at h;exact h
   have x:r.length+1<=100000:=by simp at f;omega
   have bq:(0:Int)<(r.length:Nat)+1:=xaa;clear f;go_wp2_with fail;go_ret;exact⟨congrArg (λz=>Ending.returned (.int _ z)) H.o,bN.o⟩
end
section
variable{n k:Nat}{ts:List Tok}
def hdS:List Tok->List UInt8
 |[]=>IQ
 |t::_=>t.sym
theorem iy{n p r}(h:jA p=true):∀ts:List Tok,fC n ts (p::r)=fC n ts (gh p (hdS ts)++r)
 |[]=>by rw[fC,fC,iG h];rfl
 |t::ts=>by rw[fC,fC,iG h];rfl
theorem eO{n s r}(h:jA s=false):∀{ts:List Tok},fC n ts (s::r)=-1->∃t us,ts=t::us/\t.sym=s/\fC n us r=-1
 |[],S=>by
  grind[fC,lL]
 |t::us,S=>by
  grind[fC,lL]
def CN(n:Nat)(p:List UInt8)(l:Nat)(ts:List Tok):Prop:=∀r,fC n ts (p::r)=-1->∃e us ws,ts=us++ws/\Pr l [e] us/\fC n ws r=-1
def TkM(n:Nat)(p:List UInt8)(l:Nat)(ts:List Tok):Prop:=∀r a ls,Pr l [a] ls->fC n ts (p::r)=-1->∃e us ws,ts=us++ws/\Pr l [e] (ls++us)/\fC n ws r=-1
def O3(n:Nat)(ts:List Tok):Prop:=∀r es ls,Pr 3 es ls->fC n ts (gV::r)=-1->∃es' us ws,ts=us++ws/\Pr 3 es' (ls++us)/\fC n ws r=-1
structure Gr(n k:Nat):Prop where
 u:∀ts,ts.length<k->CN n lA 0 ts
 mu:∀ts,ts.length<k->TkM n fK 1 ts
 t:∀ts,ts.length<k->CN n jY 1 ts
 mt:∀ts,ts.length<k->TkM n fS 2 ts
 e:∀ts,ts.length<k->CN n gD 2 ts
 ma:∀ts,ts.length<k->O3 n ts
theorem LH(g:Gr n k)(ts)(J:ts.length<k+1):TkM n fK 1 ts:=by
 intro r a K ag S;rw[iy xab]at S;by_cases c:hdS ts=[42]\/hdS ts=[47]
 ·have aG:gh fK (hdS ts)=[hdS ts,lA,fK]:=by
   rcases c with c|c<;>rw[c]<;>rfl
  rw[aG]at S;obtain⟨o,us,rfl,aR,S⟩:=eO (by rcases c with c|c<;>rw[c]<;>decide) S;rw[<-aR]at c;obtain⟨b,d,Y,rfl,N,S⟩:=g.u us (by simp at J;omega) _ S;obtain⟨e,C,f,rfl,h3,S⟩:=g.mu Y (by simp at J;omega) r (.bin o a b) (K++o::d) (.mul ag c N) S;exact⟨e,o::(d++C),f,by simp,by simpa using h3,S⟩
 have aG:gh fK (hdS ts)=[]:=by
  unfold gh;rw[ip xab,ip xab,ip xab,ip xab,ip xab,ip xab,iv rfl,ip c]
 rw[aG]at S;exact⟨a,[],ts,rfl,by simpa using ag,S⟩
theorem sZ(g:Gr n k)(J:ts.length<k+1){x H}(S:fC n ts (x::[40]::gD::H)=-1)(aH:jA x=false):∃y l e us Y,ts=y::l::(us++Y)/\y.sym=x/\l.sym=[40]/\Pr 2 [e] us/\fC n Y H=-1/\Y.length<k:=by
 obtain⟨y,us,rfl,C,S⟩:=eO aH S;obtain⟨l,us,rfl,ag,S⟩:=eO xab S;obtain⟨e,d,Y,rfl,N,S⟩:=g.e _ (by grind) _ S;grind
theorem O4(g:Gr n k)(ts)(J:ts.length<k+1):CN n lA 0 ts:=by
 intro r S;rw[iy xab,sY]at S;generalize hdS _=s at S;by_cases h:s∈UL
 ·simp only[UL,List.mem_cons,List.not_mem_nil,or_false]at h;rcases h with rfl|rfl|rfl|rfl|rfl|rfl|rfl|rfl|rfl|rfl|rfl|rfl|rfl|rfl
  ·obtain⟨o,us,rfl,aR,S⟩:=eO xab S;obtain⟨e,d,Y,rfl,N,S⟩:=g.u _ (by grind) _ S;exact⟨_,_,_,rfl,.neg aR N,S⟩
  ·obtain⟨t,us,rfl,ht,S⟩:=eO xab S;have S:fC n _ (pY::r)=-1:=S;rw[iy xab]at S;by_cases c:hdS us=[40]
   ·rw[c]at S;obtain⟨l,d,rfl,ag,S⟩:=eO xab S;have S:fC n _ (nA::[41]::r)=-1:=S;rw[iy xab]at S;by_cases c2:hdS d=[41]
    ·rw[c2]at S;obtain⟨b,C,rfl,au,S⟩:=eO xab S;exact⟨_,_,_,rfl,.call0 ht ag au,S⟩
    rw[show gh nA _=[gD,gV] by simp[gh,c2,iq,kV,gl,gD,fS,jY,fK,pY,nA]]at S;obtain⟨e,C,Y,rfl,N,S⟩:=g.e _ (by grind) _ S;obtain⟨es,gT,f,rfl,h3,S⟩:=g.ma _ (by grind) _ _ _ (.arg1 N) S;obtain⟨b,z,rfl,au,S⟩:=eO xab S;exact⟨_,_,_,by simp,.call ht ag h3 au,S⟩
   rw[show gh pY _=[] by simp[gh,c,iq,kV,gl,gD,fS,jY,fK,pY]]at S;exact⟨_,_,_,rfl,.name ht,S⟩
  ·obtain⟨l,us,rfl,ag,S⟩:=eO xab S;obtain⟨e,d,Y,rfl,N,S⟩:=g.e _ (by grind) _ S;obtain⟨b,C,rfl,au,S⟩:=eO xab S;exact⟨_,_,_,by simp,.par ag N au,S⟩
  iterate 2
   ·obtain⟨y,l,e,us,Y,rfl,B,ag,N,S,bO⟩:=sZ g J S xab
    obtain⟨b,j,rfl,au,S⟩:=eO xab S
    exact⟨_,y::l::(us++[b]),_,by simp,.key1 (by first|exact .inl B|exact .inr B) ag N au,S⟩
  iterate 2
   ·obtain⟨y,l,e,us,Y,rfl,B,ag,N,S,bO⟩:=sZ g J S xab
    obtain⟨c,q,rfl,ai,S⟩:=eO xab S
    obtain⟨be,u2,ak,rfl,h3,S⟩:=g.e _ (by grind) _ S
    obtain⟨b,j,rfl,au,S⟩:=eO xab S
    exact⟨_,y::l::(us++c::(u2++[b])),_,by simp,.key2 (by first|exact .inl B|exact .inr B) ag N ai h3 au,S⟩
  ·obtain⟨y,l,e,us,Y,rfl,B,ag,N,S,bO⟩:=sZ g J S xab;obtain⟨c,q,rfl,ai,S⟩:=eO xab S;obtain⟨be,u2,ak,rfl,h3,S⟩:=g.e _ (by grind) _ S;obtain⟨c2,u,rfl,bQ,S⟩:=eO xab S;obtain⟨ah,u3,aM,rfl,bp,S⟩:=g.e _ (by grind) _ S;obtain⟨b,j,rfl,au,S⟩:=eO xab S;exact⟨_,_,_,by simp,.key3 B ag N ai h3 bQ bp au,S⟩
  iterate 2
   ·obtain⟨y,l,e,us,Y,rfl,B,ag,N,S,bO⟩:=sZ g J S xab
    obtain⟨c,q,rfl,ai,S⟩:=eO xab S
    obtain⟨m,v,rfl,aD,S⟩:=eO xab S
    obtain⟨b,j,rfl,au,S⟩:=eO xab S
    exact⟨_,y::l::(us++[c,m,b]),_,by simp,.keyN (by first|exact .inl B|exact .inr B) ag N ai aD au,S⟩
  ·obtain⟨y,l,e,us,Y,rfl,B,ag,N,S,bO⟩:=sZ g J S xab;obtain⟨c,q,rfl,ai,S⟩:=eO xab S;obtain⟨i,F,rfl,hi,S⟩:=eO xab S;obtain⟨c2,u,rfl,bQ,S⟩:=eO xab S;obtain⟨m,v,rfl,aD,S⟩:=eO xab S;obtain⟨b,j,rfl,au,S⟩:=eO xab S;exact⟨_,_,_,by simp,.put B ag N ai hi bQ aD au,S⟩
  ·obtain⟨y,l,e,us,Y,rfl,B,ag,N,S,bO⟩:=sZ g J S xab;obtain⟨c,q,rfl,ai,S⟩:=eO xab S;obtain⟨x,w,rfl,aH,S⟩:=eO xab S;obtain⟨b,j,rfl,au,S⟩:=eO xab S;exact⟨_,_,_,by simp,.grad B ag N ai aH au,S⟩
  ·obtain⟨y,l,e,us,Y,rfl,B,ag,N,S,bO⟩:=sZ g J S xab;obtain⟨c,q,rfl,ai,S⟩:=eO xab S;obtain⟨x,w,rfl,aH,S⟩:=eO xab S;obtain⟨c2,u,rfl,bQ,S⟩:=eO xab S;obtain⟨ah,u3,aM,rfl,bp,S⟩:=g.e _ (by grind) _ S;obtain⟨b,j,rfl,au,S⟩:=eO xab S;exact⟨_,_,_,by simp,.jvp B ag N ai aH bQ bp au,S⟩
  obtain⟨t,us,rfl,ht,S⟩:=eO xab S;exact⟨_,_,_,rfl,.num (.inr ht),S⟩
 rw[wb h]at S;obtain⟨t,us,rfl,ht,S⟩:=eO xab S;exact⟨_,_,_,rfl,.num (.inl ht),S⟩
theorem O5(g:Gr n k)(ts)(J:ts.length<k+1):CN n jY 1 ts:=by
 intro r S;rw[iy xab,uR]at S;obtain⟨a,us,Y,rfl,B,S⟩:=O4 g _ J _ S;obtain⟨e,C,f,rfl,N,S⟩:=LH g _ (by grind) r a _ (.up01 B) S;grind
theorem LI(g:Gr n k)(ts)(J:ts.length<k+1):TkM n fS 2 ts:=by
 intro r a K ag S;rw[iy xab]at S;by_cases c:hdS ts=[43]\/hdS ts=[45]
 ·have aG:gh fS (hdS ts)=[hdS ts,jY,fS]:=by
   rcases c with c|c<;>rw[c]<;>rfl
  rw[aG]at S;obtain⟨o,us,rfl,aR,S⟩:=eO (by rcases c with c|c<;>rw[c]<;>decide) S;rw[<-aR]at c;obtain⟨b,d,Y,rfl,N,S⟩:=g.t us (by simp at J;omega) _ S;obtain⟨e,C,f,rfl,h3,S⟩:=g.mt Y (by simp at J;omega) r (.bin o a b) (K++o::d) (.add ag c N) S;exact⟨e,o::(d++C),f,by simp,by simpa using h3,S⟩
 have aG:gh fS (hdS ts)=[]:=by
  unfold gh;rw[ip xab,ip xab,ip xab,ip xab,iv rfl,ip c]
 rw[aG]at S;exact⟨a,[],ts,rfl,by simpa using ag,S⟩
theorem P0(g:Gr n k)(ts)(J:ts.length<k+1):CN n gD 2 ts:=by
 intro r S;rw[iy xab,uS]at S;obtain⟨a,us,Y,rfl,B,S⟩:=O5 g _ J _ S;obtain⟨e,C,f,rfl,N,S⟩:=LI g _ (by grind) r a _ (.up12 B) S;grind
theorem O6(g:Gr n k)(ts)(J:ts.length<k+1):O3 n ts:=by
 intro r es K ag S;rw[iy xab]at S;by_cases c:hdS ts=[44]
 ·have aG:gh gV (hdS ts)=[[44],gD,gV]:=by rw[c];rfl
  rw[aG]at S;obtain⟨o,us,rfl,aR,S⟩:=eO xab S;obtain⟨b,d,Y,rfl,N,S⟩:=g.e us (by simp at J;omega) _ S;obtain⟨e,C,f,rfl,h3,S⟩:=g.ma Y (by simp at J;omega) r _ (K++o::d) (.argM ag aR N) S;exact⟨e,o::(d++C),f,by simp,by simpa using h3,S⟩
 have aG:gh gV (hdS ts)=[]:=by
  unfold gh;rw[ip xab,ip xab,ip xab,ip xab,ip xab,ip xab,ip xab,ip xab,ip xab,iv rfl,ip c]
 rw[aG]at S;exact⟨es,[],ts,rfl,by simpa using ag,S⟩
theorem pA(n):∀k,Gr n k
 |0=>⟨λ_ h=>by omega,λ_ h=>by omega,λ_ h=>by omega,λ_ h=>by omega,λ_ h=>by omega,λ_ h=>by omega⟩
 |k+1=>⟨O4 (pA n k),LH (pA n k),O5 (pA n k),LI (pA n k),P0 (pA n k),O6 (pA n k)⟩
theorem qh{r}(h:fC n ts (gD::r)=-1):∃e us Y,ts=us++Y/\Pr 2 [e] us/\fC n Y r=-1:=(pA n (ts.length+1)).e ts yaf r h
def kIn:List UInt8:=[105,110]
def Ji:List UInt8:=[108,101,116]
def Jj:List UInt8:=[111,117,116]
def Fm:List UInt8:=[100,101,102]
def Jk:List UInt8:=[114,101,112,101,97,116]
theorem Jl{es}(h:Pr n es ts):∀t∈ts,t.sym≠[59]:=by
 induction h<;>(try simp only[List.forall_mem_append,List.forall_mem_cons])<;>grind[ik,kK,gz,yk,EF,As,IT,ym,uL,pZ,Cx,Bu,IU]
inductive Sm where
 |inS (n l:Tok)
 |letS (n:Tok) (e:Ex)
 |rep (i n:Tok) (e:Ex)
 |defS (n:Tok) (ps:List Tok) (e:Ex)
 |outS (k:Tok) (e:Ex)
inductive PPm:List Tok->List Tok->Prop
 |one {t:Tok}:t.sym=gz->PPm [t] [t]
 |more {ps ts:List Tok}{c t:Tok}:PPm ps ts->c.sym=[44]->t.sym=gz->PPm (ps++[t]) (ts++[c,t])
theorem Fo{ps}(h:PPm ps ts):∀t∈ts,t.sym=gz\/t.sym=[44]:=by
 induction h<;>grind
inductive PSm:Sm->List Tok->Prop
 |inS {k n c l:Tok}:k.sym=kIn->n.sym=gz->c.sym=[58]->l.sym=ik->PSm (.inS n l) [k,n,c,l]
 |letS {k n q:Tok}{e:Ex}{ts:List Tok}:k.sym=Ji->n.sym=gz->q.sym=[61]->Pr 2 [e] ts->PSm (.letS n e) (k::n::q::ts)
 |rep {k i n q:Tok}{e:Ex}{ts:List Tok}:k.sym=Jk->i.sym=ik->n.sym=gz->q.sym=[61]->Pr 2 [e] ts->PSm (.rep i n e) (k::i::n::q::ts)
 |def0 {k n l r q:Tok}{e:Ex}{ts:List Tok}:k.sym=Fm->n.sym=gz->l.sym=[40]->r.sym=[41]->q.sym=[61]->Pr 2 [e] ts->PSm (.defS n [] e) (k::n::l::r::q::ts)
 |defS {k n l r q:Tok}{e:Ex}{ps us ts:List Tok}:k.sym=Fm->n.sym=gz->l.sym=[40]->PPm ps us->r.sym=[41]->q.sym=[61]->Pr 2 [e] ts->PSm (.defS n ps e) (k::n::l::(us++r::q::ts))
 |outS {k:Tok}{e:Ex}{ts:List Tok}:k.sym=Jj->Pr 2 [e] ts->PSm (.outS k e) (k::ts)
theorem Jm{s}(h:PSm s ts):∀t∈ts,t.sym≠[59]:=by
 cases h<;>grind[Jl,Fo,kIn,Ji,Jk,Fm,Jj,ik,gz]
inductive PGm:List Sm->List Tok->Prop
 |nil:PGm [] []
 |cons {s:Sm}{ss:List Sm}{ts us:List Tok}{c:Tok}:PSm s ts->c.sym=[59]->PGm ss us->PGm (s::ss) (ts++c::us)
theorem uU{n}:∀(k:Nat) (ts:List Tok),ts.length<=k->∀r ps K,PPm ps K->fC n ts (gl::r)=-1->∃f us Y,ts=us++Y/\PPm f (K++us)/\fC n Y r=-1
 |k,ts,J,r,ps,K,aA,S=>by
  rw[iy xab]at S
  by_cases c:hdS ts=[44]
  ·rw[show gh gl (hdS ts)=[[44],[110,97,109,101],gl] by rw[c];rfl]at S
   obtain⟨o,us,rfl,aR,S⟩:=eO xab S
   obtain⟨t,d,rfl,ht,S⟩:=eO xab S
   match k,J with
   |0,J=>simp at J
   |k+1,J=>
    obtain⟨f,C,Y,rfl,h3,S⟩:=uU k d (by simp at J;omega) r (ps++[t]) (K++[o,t]) (.more aA aR ht) S
    exact⟨f,o::t::C,Y,by simp,by simpa using h3,S⟩
  ·rw[show gh gl (hdS ts)=[] by
    unfold gh
    rw[ip xab,ip xab,iv rfl,ip c]]at S
   exact⟨ps,[],ts,rfl,by simpa using aA,S⟩
theorem yL{n}:∀(k:Nat) (ts:List Tok),ts.length<=k->fC n ts [iq]=-1->∃af,PGm af ts
 |k,ts,J,S=>by
  rw[iy xab]at S
  unfold gh at S
  rw[iv rfl]at S
  generalize hdS ts=s at S
  have b:∀{us:List Tok},us.length<ts.length->fC n us [iq]=-1->∃af,PGm af us:=λ{us} ag h=>by
   match k,J with
   |0,J=>omega
   |k+1,J=>exact yL k us xaa h
  by_cases aR:s=[105,110]
  ·rw[iv aR]at S
   obtain⟨ap,us,rfl,B,S⟩:=eO xab S
   obtain⟨aC,us,rfl,N,S⟩:=eO xab S
   obtain⟨a9,us,rfl,h3,S⟩:=eO xab S
   obtain⟨bS,us,rfl,bp,S⟩:=eO xab S
   obtain⟨a5,us,rfl,bU,S⟩:=eO xab S
   obtain⟨af,az⟩:=b yag S
   exact⟨_,.cons (ts:=[ap,aC,a9,bS]) (.inS B N h3 bp) bU az⟩
  rw[ip aR]at S
  by_cases ca:s=[108,101,116]
  ·rw[iv ca]at S
   obtain⟨ap,us,rfl,B,S⟩:=eO xab S
   obtain⟨aC,us,rfl,N,S⟩:=eO xab S
   obtain⟨a9,us,rfl,h3,S⟩:=eO xab S
   obtain⟨e,us,Y,rfl,bp,S⟩:=qh S
   obtain⟨a5,f,rfl,bU,S⟩:=eO xab S
   obtain⟨af,az⟩:=b yag S
   exact⟨_,.cons (ts:=ap::aC::a9::us) (.letS B N h3 bp) bU az⟩
  rw[ip ca]at S
  by_cases a2:s=[114,101,112,101,97,116]
  ·rw[iv a2]at S
   obtain⟨ap,us,rfl,B,S⟩:=eO xab S
   obtain⟨aC,us,rfl,N,S⟩:=eO xab S
   obtain⟨a9,us,rfl,h3,S⟩:=eO xab S
   obtain⟨bS,us,rfl,bp,S⟩:=eO xab S
   obtain⟨e,us,Y,rfl,bz,S⟩:=qh S
   obtain⟨a5,f,rfl,bU,S⟩:=eO xab S
   obtain⟨af,az⟩:=b yag S
   exact⟨_,.cons (ts:=ap::aC::a9::bS::us) (.rep B N h3 bp bz) bU az⟩
  rw[ip a2]at S
  by_cases aB:s=[100,101,102]
  ·rw[iv aB]at S
   obtain⟨ap,us,rfl,B,S⟩:=eO xab S
   obtain⟨aC,us,rfl,N,S⟩:=eO xab S
   obtain⟨a9,us,rfl,h3,S⟩:=eO xab S
   have S:fC n us (kV::[41]::[61]::gD::[59]::[iq])=-1:=S
   rw[iy xab]at S
   by_cases c:hdS us=[110,97,109,101]
   ·rw[show gh kV (hdS us)=[[110,97,109,101],gl] by rw[c];rfl]at S
    obtain⟨t,d,rfl,ht,S⟩:=eO xab S
    obtain⟨ps,C,Y,rfl,aA,S⟩:=uU d.length d yad _ [t] [t] (.one ht) S
    obtain⟨b6,us,rfl,bz,S⟩:=eO xab S
    obtain⟨b7,us,rfl,al,S⟩:=eO xab S
    obtain⟨e,us,Y,rfl,Q,S⟩:=qh S
    obtain⟨a5,f,rfl,bU,S⟩:=eO xab S
    obtain⟨af,az⟩:=b yag S
    have:=PGm.cons (ts:=ap::aC::a9::(t::C++b6::b7::us)) (.defS B N h3 aA bz al Q) bU az
    exact⟨_,by simpa using this⟩
   ·rw[show gh kV (hdS us)=[] by
     unfold gh
     rw[ip xab,iv rfl,ip c]]at S
    obtain⟨b6,us,rfl,bz,S⟩:=eO xab S
    obtain⟨b7,us,rfl,al,S⟩:=eO xab S
    obtain⟨e,us,Y,rfl,Q,S⟩:=qh S
    obtain⟨a5,f,rfl,bU,S⟩:=eO xab S
    obtain⟨af,az⟩:=b yag S
    exact⟨_,.cons (ts:=ap::aC::a9::b6::b7::us) (.def0 B N h3 bz al Q) bU az⟩
  rw[ip aB]at S
  by_cases cc:s=[111,117,116]
  ·rw[iv cc]at S
   obtain⟨ap,us,rfl,B,S⟩:=eO xab S
   obtain⟨e,us,Y,rfl,bp,S⟩:=qh S
   obtain⟨a5,f,rfl,bU,S⟩:=eO xab S
   obtain⟨af,az⟩:=b yag S
   exact⟨_,.cons (ts:=ap::us) (.outS B bp) bU az⟩
  rw[ip cc]at S
  cases ts with
  |nil=>exact⟨_,.nil⟩
  |cons t ts=>
   rw[List.nil_append,fC,mU]at S
   simp only at S
   omega
theorem Jn(h:fC n ts [iq]=-1):∃af,PGm af ts:=yL ts.length ts yad h
inductive Bdg where
 |val (nm:List UInt8) (v:Nat)
 |fn (nm:List UInt8) (ps:List Tok) (e:Ex)
def Bdg.nm:Bdg->List UInt8
 |.val n _=>n
 |.fn n _ _=>n
structure LSt where
 ins:List Int
 vs:List Vl
 outs:List Int
 names:List Bdg
 calls:Nat
abbrev Fp:=Int×Nat
abbrev Rs(α:Type):=Except Fp α
def fQ(st:LSt)(v:Vl)(p:Nat):Rs (LSt×Nat):=if kq (st.vs++[v])=true then .error (5,p)else .ok ({st with vs:=st.vs++[v]},st.vs.length)
def eW(st:LSt)(i:Nat):Int:=(st.vs.getD i i0).len
def iI(ns:List Bdg)(s:List UInt8):Option Bdg:=ns.find? λb=>b.nm==s
def AI(loc:List (List UInt8×Nat))(s:List UInt8):Option Nat:=(loc.find? λb=>b.1==s).map (·.2)
def fw(st:LSt)(loc:List (List UInt8×Nat))(t:Tok):Rs Nat:=
 match AI loc t.text with
 |some v=>.ok v
 |none=>match iI st.names t.text with
  |some (.val _ v)=>.ok v
  |_=>.error (3,t.pos)
def pB(st:LSt)(xs:List Nat):Int:=xs.foldl (λn i=>if n<eW st i then eW st i else n) 1
def iw(n:Int)(p:Nat):LSt->List Nat->Rs (LSt×List Nat)
 |st,[]=>.ok (st,[])
 |st,i::r=>if eW st i<n then
   match fQ st (eK 10 n (i:Int) 0 0) p with
   |.error f=>.error f
   |.ok (st1,j)=>match iw n p st1 r with
    |.error f=>.error f
    |.ok (st2,js)=>.ok (st2,j::js)
  else match iw n p st r with
   |.error f=>.error f
   |.ok (st2,js)=>.ok (st2,i::js)
def jN(st:LSt)(xs:List Nat)(p:Nat):Rs (LSt×List Nat):=if xs.all (λi=>eW st i==pB st xs||eW st i==1)=true then iw (pB st xs) p st xs else .error (4,p)
def ii(t:List UInt8):Int:=t.foldl (λv b=>v*10+((b.toNat:Int)-48)) 0
def oh(t:List UInt8):Nat:=cop .quo (floatOfInt .f64 (nds (gX t)).1) (floatOfInt .f64 (nds (gX t)).2.1)
def qj(s:List UInt8):Int:=if s=[43]then 2 else if s=[45]then 3 else if s=[42]then 4 else 5
def iB(st:LSt)(m:List Vl×Int)(p:Nat):Rs (LSt×Nat):=if kq m.1=true then .error (5,p)else .ok ({st with vs:=m.1},m.2.toNat)
def lO(st:LSt)(k:Tok)(a:Nat)(n:Tok):Rs (LSt×Nat):=
 if k.sym=pZ then
  if eW st a<=ii n.text then .error (4,n.pos)else fQ st (eK 11 1 (a:Int) 0 (ii n.text)) k.pos
 else if eW st a≠1 then .error (4,k.pos)
 else if ii n.text<1\/1000<ii n.text then .error (4,n.pos)else fQ st (eK 10 (ii n.text) (a:Int) 0 0) k.pos
def lP(st:LSt)(k:Tok)(a:Nat)(i n:Tok):Rs (LSt×Nat):=
 if eW st a≠1 then .error (4,k.pos)
 else if ii n.text<1\/1000<ii n.text then .error (4,n.pos)
 else if ii n.text<=ii i.text then .error (4,i.pos)else fQ st (eK 12 (ii n.text) (a:Int) 0 (ii i.text)) k.pos
def qk(st:LSt)(o:Tok)(a b:Nat):Rs (LSt×Nat):=
 match jN st [a,b] o.pos with
 |.error f=>.error f
 |.ok (s2,f)=>fQ s2 (eK (qj o.sym) (eW s2 (f.getD 0 0)) (f.getD 0 0:Nat) (f.getD 1 0:Nat) 0) o.pos
def ql(st:LSt)(k:Tok)(a b:Nat):Rs (LSt×Nat):=
 match jN st [a,b] k.pos with
 |.error f=>.error f
 |.ok (s2,f)=>
  if k.sym=As then fQ s2 (eK 7 (eW s2 (f.getD 0 0)) (f.getD 0 0:Nat) (f.getD 1 0:Nat) 0) k.pos
  else match fQ s2 (eK 4 (eW s2 (f.getD 0 0)) (f.getD 0 0:Nat) (f.getD 1 0:Nat) 0) k.pos with
   |.error f=>.error f
   |.ok (s3,p)=>fQ s3 (eK 9 1 (p:Int) 0 0) k.pos
def wH(st:LSt)(k:Tok)(a b c:Nat):Rs (LSt×Nat):=
 match jN st [a,b,c] k.pos with
 |.error f=>.error f
 |.ok (s2,f)=>fQ s2 (eK 8 (eW s2 (f.getD 0 0)) (f.getD 0 0:Nat) (f.getD 1 0:Nat) (f.getD 2 0:Nat)) k.pos
def pr(st:LSt)(k:Tok)(a x:Nat):Rs (LSt×Nat):=if eW st a≠1 then .error (4,k.pos)else iB st (grM st.vs a x) k.pos
def pC(st:LSt)(k:Tok)(a x d:Nat):Rs (LSt×Nat):=
 if eW st d=1/\1<eW st x then
  match fQ st (eK 10 (eW st x) (d:Int) 0 0) k.pos with
  |.error f=>.error f
  |.ok (s2,d2)=>iB s2 (jK s2.vs a x d2) k.pos
 else if eW st d≠eW st x then .error (4,k.pos)else iB st (jK st.vs a x d) k.pos
abbrev Loc:=List (List UInt8×Nat)
def jo(r:Option (Rs (LSt×Nat)))(f:LSt->Nat->Option (Rs (LSt×Nat))):Option (Rs (LSt×Nat)):=
 match r with
 |none=>none
 |some (.error e)=>some (.error e)
 |some (.ok (st,a))=>f st a
def fY(ev:LSt->Ex->Option (Rs (LSt×Nat))):LSt->List Ex->Option (Rs (LSt×List Nat))
 |st,[]=>some (.ok (st,[]))
 |st,e::r=>match ev st e with
  |none=>none
  |some (.error f)=>some (.error f)
  |some (.ok (s1,a))=>match fY ev s1 r with
   |none=>none
   |some (.error f)=>some (.error f)
   |some (.ok (s2,xs))=>some (.ok (s2,a::xs))
def eM:Nat->LSt->Loc->Ex->Option (Rs (LSt×Nat))
 |0,_,_,_=>none
 |_+1,st,_,.num t=>some (fQ st ⟨1,1,0,0,0,oh t.text⟩ t.pos)
 |_+1,st,loc,.name t=>some (match fw st loc t with|.error f=>.error f|.ok v=>.ok (st,v))
 |f+1,st,loc,.neg o e=>jo (eM f st loc e) λs a=>some (fQ s (eK 6 (eW s a) (a:Int) 0 0) o.pos)
 |f+1,st,loc,.bin o a b=>jo (eM f st loc a) λs1 x=>jo (eM f s1 loc b) λs2 y=>some (qk s2 o x y)
 |f+1,st,loc,.call t es=>
  match iI st.names t.text with
  |some (.fn _ ps body)=>
   if ps.length=es.length then
    match fY (λs e=>eM f s loc e) st es with
    |none=>none
    |some (.error e)=>some (.error e)
    |some (.ok (s1,xs))=>if 500<=s1.calls then some (.error (5,t.pos))else eM f {s1 with calls:=s1.calls+1} ((ps.map (·.text)).zip xs) body
   else some (.error (3,t.pos))
  |_=>some (.error (3,t.pos))
 |f+1,st,loc,.key1 k e=>jo (eM f st loc e) λs a=>some (if k.sym=yk then fQ s (eK 13 (eW s a) (a:Int) 0 0) k.pos else fQ s (eK 9 1 (a:Int) 0 0) k.pos)
 |f+1,st,loc,.key2 k a b=>jo (eM f st loc a) λs1 x=>jo (eM f s1 loc b) λs2 y=>some (ql s2 k x y)
 |f+1,st,loc,.key3 k a b c=>jo (eM f st loc a) λs1 x=>jo (eM f s1 loc b) λs2 y=>jo (eM f s2 loc c) λs3 z=>some (wH s3 k x y z)
 |f+1,st,loc,.keyN k e n=>jo (eM f st loc e) λs a=>some (lO s k a n)
 |f+1,st,loc,.put k e i n=>jo (eM f st loc e) λs a=>some (lP s k a i n)
 |f+1,st,loc,.grad k e x=>match fw st loc x with
  |.error q=>some (.error q)
  |.ok v=>jo (eM f st loc e) λs a=>some (pr s k a v)
 |f+1,st,loc,.jvp k e x d=>match fw st loc x with
  |.error q=>some (.error q)
  |.ok v=>jo (eM f st loc e) λs1 a=>jo (eM f s1 loc d) λs2 y=>some (pC s2 k a v y)
end
section
attribute[local go_sem] eE eC eB
variable{w F z:World}{M':Nat->Prop}{P I g an n:Nat}{v u4:Value}{ts:List Tok}
structure Mv(M:Nat->Prop)(W:World)(M':Nat->Prop)(W':World):Prop where
 chg:Chg M W W'
 new:∀b,M' b->M b\/W.heap.size<=b
theorem Mv.refl(M W):Mv M W M W:=⟨(Kept.refl 0 0 W).chg,λ_ h=>.inl h⟩
theorem Mv.keep{M W aq bU}(h:Mv M W M' aq)(k:Kept 0 0 aq bU):Mv M W M' bU:=
 ⟨⟨k.os.trans h.chg.os,k.tape.trans h.chg.tape,k.output.trans h.chg.output,yao h.chg.size k.size,λi hi hn=>(k.block i (yak hi h.chg.size) xaa).trans (h.chg.block i hi hn)⟩,h.new⟩
theorem Mv.of{M W}(k:Kept 0 0 W F):Mv M W M F:=(Mv.refl M W).keep k
theorem Mv.trans{M d W}(h:Mv M W M' F)(k:Mv M' F d z):Mv M W d z where
 chg:=⟨k.chg.os.trans h.chg.os,k.chg.tape.trans h.chg.tape,k.chg.output.trans h.chg.output,yao h.chg.size k.chg.size,λi hi hn=>(k.chg.block i (yak hi h.chg.size) (λc=>(h.new i c).elim hn (λc=>by omega))).trans (h.chg.block i hi hn)⟩
 new:=λb hb=>(k.new b hb).elim (h.new b) (λc=>.inr (yao h.chg.size c))
theorem Mv.bad{M W}(h:Mv M W M' F)(k:Chg M' F z):Chg M W z:=
 ⟨k.os.trans h.chg.os,k.tape.trans h.chg.tape,k.output.trans h.chg.output,yao h.chg.size k.size,λi hi hn=>(k.block i (yak hi h.chg.size) (λc=>(h.new i c).elim hn (λc=>by omega))).trans (h.chg.block i hi hn)⟩
structure TkR(M:Nat->Prop)(W:World)(a:Option Addr)(n:Nat)(ts:List Tok):Prop where
 len:ts.length=n
 at_:0<n->∃g off,a=some ⟨g,off,none⟩/\¬M g/\TkA W g off n ts
theorem TkA.keepC{O S}(h:TkA w g an n ts)(k:Chg S w O)(aN:¬S g):TkA O g an n ts:=
 ⟨h.len,yak h.lt k.size,λj hj=>(k.cell (p:=⟨g,an+j*3,none⟩) h.lt aN).trans (h.c0 j hj),λj hj=>(k.cell (p:=⟨g,an+j*3+1,none⟩) h.lt aN).trans (h.c1 j hj),λj hj=>(k.cell (p:=⟨g,an+j*3+2,none⟩) h.lt aN).trans (h.c2 j hj)⟩
theorem TkR.mv{M W a}(h:TkR M W a n ts)(k:Mv M W M' F):TkR M' F a n ts:=
 ⟨h.len,λhn=>by
  obtain⟨g,an,e,B,N⟩:=h.at_ hn
  exact⟨g,_,e,λc=>(k.new g c).elim B (λc=>i4 N.lt),N.keepC k.chg B⟩⟩
theorem s9(ts:List Tok)(i j k)(J:k<j-i):((ts.drop i).take (j-i)).getD k i1=ts.getD (i+k) i1:=by
 simp_all
theorem TkA.cut(h:TkA w g an n ts){i j}(hj:j<=n):TkA w g (an+i*3) (j-i) ((ts.drop i).take (j-i)):=by
 have ag:=h.len;refine⟨by grind,h.lt,λk J=>?_,λk J=>?_,λk J=>?_⟩
 ·rw[s9 _ i j k J,show an+i*3+k*3=an+(i+k)*3 by omega];exact h.c0 _ xaa
 ·rw[s9 _ i j k J,show an+i*3+k*3=an+(i+k)*3 by omega];exact h.c1 _ xaa
 rw[s9 _ i j k J,show an+i*3+k*3=an+(i+k)*3 by omega];exact h.c2 _ xaa
structure Dgs(l:List UInt8):Prop where
 len:l.length<=15
 d:∀k,k<l.length->48<=bt l k/\bt l k<=57
def kr(x:List UInt8):Prop:=v7 (gX x)/\(gX x).countP dig<=15
structure TsOK(ts:List Tok):Prop where
 n5:ts.length<=5000
 ti:∀t∈ts,t.sym=ik->Dgs t.text
 tn:∀t∈ts,(t.sym=ik\/t.sym=kK)->kr t.text
structure Bc where
 nm:List UInt8
 fn:Bool
 val:Int
 pa:Option Addr
 pn:Nat
 pc:Nat
 ba:Option Addr
 bn:Nat
 bc:Nat
def i2:Bc:=⟨[],false,0,none,0,0,none,0,0⟩
def Bc.cells(b:Bc):List Value:=[eL b.nm,.bool b.fn,.int .i64 b.val,.slice b.pa b.pn b.pc,.slice b.ba b.bn b.bc]
def bcF:List Bc->List Value
 |[]=>[]
 |b::r=>b.cells++bcF r
theorem wI(a b):bcF (a++b)=bcF a++bcF b:=by
 induction a<;>grind[bcF]
theorem wJ(b):bcF [b]=b.cells:=by simp[bcF]
theorem Fq:∀(a:List Bc) (k j:Nat),k<a.length->j<5->(bcF a)[k*5+j]? =(a.getD k i2).cells[j]?
 |x::r,0,j,_,hj=>by
  grind[bcF,Bc.cells]
 |x::r,k+1,j,J,hj=>by
  have aH:x.cells.length=5:=rfl
  rw[bcF,yas xaa,aH,show(k+1)*5+j-5=k*5+j by omega]
  exact Fq r k j (by grind) hj
def BcOK(M:Nat->Prop)(W:World)(b:Bc):Bdg->Prop
 |.val nm v=>b.nm=nm/\b.fn=false/\b.val=(v:Int)
 |.fn nm ps e=>b.nm=nm/\b.fn=true/\TkR M W b.pa b.pn ps/\∃ts,Pr 2 [e] ts/\(TsOK ts/\b.bn<=b.bc)/\TkR M W b.ba b.bn ts
theorem BcOK.mv{M W b d}(h:BcOK M W b d)(k:Mv M W M' F):BcOK M' F b d:=by
 cases d with
 |val aa v=>exact h
 |fn aa ps e=>
  obtain⟨B,N,h3,ts,bp,bU,bz⟩:=h;exact⟨B,N,h3.mv k,_,bp,bU,bz.mv k⟩
def Mst(P:Nat)(u1 u2 u3 u4:Value)(b:Nat):Prop:=b=P\/u1.ownBlock=some b\/u2.ownBlock=some b\/u3.ownBlock=some b\/u4.ownBlock=some b
structure WS(W:World)(P B:Nat)(u1 u2 u3 u4:Value)(bs:List Bc)(st:LSt):Prop where
 lt:P<W.heap.size
 fr:∀o,W.frozen? ⟨P,o,none⟩=false
 c0:W.cell? ⟨P,0,none⟩=some u1
 c1:W.cell? ⟨P,1,none⟩=some u2
 c2:W.cell? ⟨P,2,none⟩=some u3
 c3:W.cell? ⟨P,3,none⟩=some u4
 c4:W.cell? ⟨P,4,none⟩=some (.int .i64 (st.calls:Int))
 c5:W.cell? ⟨P,5,none⟩=some (.int .i64 0)
 c6:W.cell? ⟨P,6,none⟩=some (.int .i64 0)
 r1:W.ownsRow B 3 1 u1 st.ins.length (st.ins.map (Value.int .i64))
 r2:W.ownsRow B 79 6 u2 st.vs.length (fU st.vs)
 r3:W.ownsRow B 3 1 u3 st.outs.length (st.outs.map (Value.int .i64))
 r4:W.ownsRow B 152 5 u4 bs.length (bcF bs)
 np:u1.ownBlock≠some P/\u2.ownBlock≠some P/\u3.ownBlock≠some P/\u4.ownBlock≠some P
 ap:Apart u1 u2/\Apart u1 u3/\Apart u1 u4/\Apart u2 u3/\Apart u2 u4/\Apart u3 u4
 nl:bs.length=st.names.length
 nb:∀i,i<bs.length->BcOK (Mst P u1 u2 u3 u4) W (bs.getD i i2) (st.names.getD i (.val [] 0))
 sz:B<=P
theorem Apart.symm{u}(h:Apart u v):Apart v u:=λk J G=>h k G J
theorem WS.keep{W u1 u2 u3 bs st}(h:WS W P I u1 u2 u3 u4 bs st)(k:Kept 0 0 W F):WS F P I u1 u2 u3 u4 bs st:=by
 have e:∀o,_:=λo=>k.cell (p:=⟨P,o,none⟩) h.lt xaa;exact⟨yak h.lt k.size,λo=>(k.frozen h.lt xaa).trans (h.fr o),(e 0).trans h.c0,(e 1).trans h.c1,(e 2).trans h.c2,(e 3).trans h.c3,(e 4).trans h.c4,(e 5).trans h.c5,(e 6).trans h.c6,eN h.r1 k,eN h.r2 k,eN h.r3 k,eN h.r4 k,h.np,h.ap,h.nl,λi hi=>(h.nb i hi).mv (Mv.of k),h.sz⟩
def TrO(W:World)(P B:Nat)(u1 u2 u3 u4:Value)(bs:List Bc)(r:Rs (LSt×Nat))(e:Ending)(W':World):Prop:=
 match r with
 |.error (c,p)=>e=.returned (.int .i64 (-1))/\W'.cell? ⟨P,5,none⟩=some (.int .i64 c)/\W'.cell? ⟨P,6,none⟩=some (.int .i64 (p:Int))/\Chg (Mst P u1 u2 u3 u4) W W'
 |.ok (st,v)=>e=.returned (.int .i64 (v:Int))/\∃v1 v2 v3 v4,WS W' P B v1 v2 v3 v4 bs st/\Mv (Mst P u1 u2 u3 u4) W (Mst P v1 v2 v3 v4) W'
structure Bad(W:World)(P:Nat)(M:Nat->Prop)(c:Int)(p:Nat)(W':World):Prop where
 c5:W'.cell? ⟨P,5,none⟩=some (.int .i64 c)
 c6:W'.cell? ⟨P,6,none⟩=some (.int .i64 (p:Int))
 chg:Chg M W W'
theorem jp{W}(bU:W.cell? ⟨P,5,none⟩=some (ih 0))(bz:W.cell? ⟨P,6,none⟩=some (ih 0))(fr:∀o,W.frozen? ⟨P,o,none⟩=false)(c)(p:Nat)(M)(bE:M P):
  Calls prog 101 #[ge P,ih c,ih p] W λe F=>e=.returned (ih (-1))/\Bad W P M c p F:=by
 have q:=fr 5;have am:=fr 6;have R1:V (((W.setCell _ _).setCell ⟨P,6,_⟩ (ih p)).cell? _=some (ih c)):=(eG _ _ _ _ _ _ (.inr xaa)).trans (fc _ _ _ _ _ bU);have R2:V (((W.setCell ⟨P,5,_⟩ (ih c)).setCell _ (ih p)).cell? _=some _):=fc _ _ _ _ _ ((eG _ _ _ _ _ _ (.inr xaa)).trans bz);have R3:V _:=Chg.andThen ((eU W ⟨P,5,none⟩ (ih c) yac).chg1 bE) ((eU _ ⟨P,6,none⟩ (ih p) yac).chg1 bE);clear fr bE;go_enter func101,ntmps101;go_wp2;go_ret;exact⟨rfl,R1.o,R2.o,R3.o⟩
theorem lQ{W:World}{bs}(f:W.ownsRow I 152 5 v bs.length (bcF bs))(h:0<bs.length):∃g cap,v=ia g bs.length cap/\I<=g/\g<W.heap.size/\bs.length<=cap/\
  ∀k,k<bs.length->W.cell? ⟨g,k*5,none⟩=some (eL (bs.getD k i2).nm)/\W.cell? ⟨g,k*5+1,none⟩=some (.bool (bs.getD k i2).fn)/\W.cell? ⟨g,k*5+2,none⟩=some (ih (bs.getD k i2).val)/\W.cell? ⟨g,k*5+3,none⟩=some (.slice (bs.getD k i2).pa (bs.getD k i2).pn (bs.getD k i2).pc)/\W.cell? ⟨g,k*5+4,none⟩=some (.slice (bs.getD k i2).ba (bs.getD k i2).bn (bs.getD k i2).bc):=by
 rcases f.2 with⟨_,c⟩|⟨g,cap,ao,rfl,R,a6,U,_,ct,b2⟩
 ·omega
 have az:g<W.heap.size:=by grind
 have G:∀k j,k<bs.length->j<5->W.cell? _=(bs.getD k _).cells[j]?:=λk j J hj=>by
  rw[cell_of_row W g _ _ _ _ a6,<-Array.getElem?_toList]
  have:(ao.toList.take (bs.length*5))[k*5+j]? =(bcF bs)[k*5+j]?:=by rw[b2]
  rw[List.getElem?_take_of_lt xaa]at this
  rw[this]
  exact Fq _ k j J hj
 exact⟨g,_,rfl,R,az,U,λk J=>⟨G k 0 J xaa,G k 1 J xaa,G k 2 J xaa,G k 3 J xaa,G k 4 J xaa⟩⟩
theorem jq{W:World}{bs}(f:W.ownsRow I 152 5 v bs.length (bcF bs)):∃a cap,v=.slice a bs.length cap:=by
 rcases f.2 with⟨e,c⟩|⟨g,cap,ao,e,_⟩<;>grind
def O7(bs:List Bc)(s:List UInt8)(r:Int):Prop:=(∃k:Nat,k<bs.length/\r=(k:Int)/\(bs.getD k i2).nm=s/\∀j,j<k->(bs.getD j i2).nm≠s)\/(r=-1/\∀j,j<bs.length->(bs.getD j i2).nm≠s)
theorem qR{W bs}(c3:W.cell? ⟨P,3,none⟩=some u4)(f:W.ownsRow I 152 5 u4 bs.length (bcF bs))(ag:bs.length<=100000)(s):
  Calls prog 103 #[ge P,eL s] W λe F=>∃r,e=.returned (ih r)/\O7 bs s r/\F=W:=by
 have bM:V _:=lQ f;obtain⟨a,cap,rfl⟩:=jq f;clear f;generalize hn:bs.length=n at ag c3 bM;have bu:V _:=hn;clear hn;go_enter func103,ntmps103;go_wp2_with fail;go_loopw [5] (λG F=>F=W/\∃k:Nat,k<=n/\G=ih k/\V (∀j,j<k->(bs.getD j i2).nm≠s)) (λG _=>n-(intOf G).toNat)
 case atStart=>exact⟨rfl,0,yae,rfl,λj hj=>by omega⟩
 case round=>
  obtain⟨rfl,k,J,rfl,aS⟩:=hrel;by_cases aY:k<n
  ·obtain⟨g,ce,e,_,_,_,bz⟩:=bM.o xaa;cases e;have c1:=(bz k aY).1;have HK:V (∀x,(bs.getD k i2).nm=x->x=s->_):=λx B N=>B.trans N;generalize aH:(bs.getD k _).nm=x at c1;have bA:V _:=aH;clear aH bz;cases am:(x==s)
   ·have H:V (∀j,j<k+1->(bs.getD j _).nm≠s):=λj hj=>by
     by_cases c:j=k
     ·subst c;rw[bA.o];grind
     ·exact aS.o j xaa
    go_wp2_with fail;exact xcl
   have H:V ((bs.getD k i2).nm=s):=by grind
   go_wp2_with fail;go_ret;exact⟨_,rfl,.inl ⟨k,jn bu.o aY,rfl,H.o,aS.o⟩,rfl⟩
  obtain rfl:k=n:=xaa;go_wp2_with fail;go_ret;exact⟨_,rfl,.inr ⟨rfl,jn bu.o aS.o⟩,rfl⟩
theorem Fr(s w):Calls prog 115 #[eL s] w λe O=>e=.returned (ih (qj s))/\O=w:=by
 unfold qj;by_cases aj:s=[43]
 ·rw[iv aj];have bm:(s==[43])=true:=by grind
  clear aj;exact xey
 rw[ip aj];have bm:=yax aj;by_cases B:s=[45]
 ·rw[iv B];have aW:(s==[45])=true:=by grind
  clear aj B;exact xey
 rw[ip B];have aW:=yax B;by_cases N:s=[42]
 ·rw[iv N];have bd:(s==[42])=true:=by grind
  exact xir
 rw[ip N];have bd:=yax N;exact xir
theorem tr(x y q)(ts:List Tok)(k)(h:k<ts.length):jl x y q (ts.take (k+1))=ir x y (jl x y q (ts.take k)) (ts.getD k i1):=by
 rw[yau h,fi,yai,yam h];rfl
theorem O8(x y):∀(ts:List Tok) (q:OpS),(jl x y q ts).i=q.i+ts.length
 |[],q=>rfl
 |t::ts,q=>by
  rw[eI,O8 x y _,yaq]
  grind[ir]
theorem O9(x y):∀(ts:List Tok) (q:OpS),q.d-ts.length<=(jl x y q ts).d/\(jl x y q ts).d<=q.d+ts.length
 |[],q=>by rw[fE];simp
 |t::ts,q=>by
  rw[eI,yaq]
  have B:=O9 x y ts (ir x y q t)
  grind[ir]
theorem P5(x y q t):(ir x y q t).b=iR t.sym:=by unfold ir;grind
