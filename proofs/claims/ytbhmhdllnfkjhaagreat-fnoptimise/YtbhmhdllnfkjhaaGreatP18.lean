import Derived.Test.YtbhmhdllnfkjhaaGreatP17
namespace Go.Proofs.Z
open Tryz Go.RowKit Flt
set_option maxRecDepth 1000000
set_option maxHeartbeats 0
section
attribute[local go_sem] eG eE eD
variable{w I:World}{ts:List Tok}{S:List (List UInt8)}
def RlT(w:World)(ss:List (List UInt8))(e:Ending)(w':World):Prop:=(ss=[]/\e=.returned (.slice none 0 0)/\w'=w)\/(ss≠[]/\e=.returned (.slice (some ⟨w.heap.size,0,none⟩) ss.length ss.length)/\w'=w.alloc (.cells (ss.map λl=>eN l).toArray 9))
theorem O7(l h):(((⟨l.toArray⟩:ByteArray)[0]'h).toNat:Int)=bt l 0:=by
 cases l with
 |nil=>simp[ByteArray.size]at h
 |cons a r=>rfl
theorem Gi(l w):Calls prog 140 #[eN l] w λe I=>e=.returned (.bool (jM l))/\I=w:=by
 have ar:=gi l;have bX:=O7 l;unfold jM;generalize bt l 0=x at bX⊢;cases aP:decide (1<l.length)
 ·have t:¬((1:Int)<l.length):=by simp at aP;omega
  go_enter func140,ntmps140;go_wp2;go_ret;exact⟨rfl,rfl⟩
 have ae:1<l.length:=by simpa using aP
 have B:0<l.length:=xaa;have t:(1:Int)<l.length:=xaa;cases aY:decide (65<=x)<;>(go_enter func140,ntmps140;go_wp2;go_ret;exact⟨rfl,rfl⟩)
theorem JI(s w):Calls prog 157 #[eN s] w (RlT w (lj s)):=by
 by_cases h:s∈UL
 ·simp only[UL,List.mem_cons,List.not_mem_nil,or_false]at h;rcases h with rfl|rfl|rfl|rfl|rfl|rfl|rfl|rfl|rfl|rfl|rfl|rfl|rfl|rfl<;>(go_enter func157,ntmps157;go_wp2;go_ret;exact .inr ⟨by decide,rfl,rfl⟩)
 rw[xn h];simp only[UL,List.mem_cons,List.not_mem_nil,or_false,not_or,<-beq_eq_false_iff_ne]at h;obtain⟨_,_,_,_,_,_,_,_,_,_,_,_,_,_⟩:=h;go_enter func157,ntmps157;go_wp2;go_ret;exact .inr ⟨by decide,rfl,rfl⟩
theorem M5(p s w):Calls prog 141 #[eN p,eN s] w (RlT w (gC p s)):=by
 by_cases h:p∈PQ
 ·have H:=@FU p s h;simp only[PQ,List.mem_cons,List.not_mem_nil,or_false]at h;by_cases ar:s∈RL
  ·clear H;simp only[RL,List.mem_cons,List.not_mem_nil,or_false]at ar;rcases h with rfl|rfl|rfl|rfl|rfl|rfl|rfl|rfl|rfl|rfl<;>rcases ar with rfl|rfl|rfl|rfl|rfl|rfl|rfl|rfl|rfl|rfl|rfl|rfl|rfl<;>(go_enter func141,ntmps141;go_wp2;go_ret;first|exact .inl ⟨rfl,rfl,rfl⟩|exact .inr ⟨by decide,rfl,rfl⟩)
  rw[H ar];clear H;simp only[RL,List.mem_cons,List.not_mem_nil,or_false,not_or,<-beq_eq_false_iff_ne]at ar;obtain⟨_,_,_,_,_,_,_,_,_,_,_,_,_⟩:=ar;rcases h with rfl|rfl|rfl|rfl|rfl|rfl|rfl|rfl|rfl|rfl<;>(go_enter func141,ntmps141;go_wp2;go_ret;first|exact .inl ⟨rfl,rfl,rfl⟩|exact .inr ⟨by decide,rfl,rfl⟩)
 rw[FT s h];simp only[PQ,List.mem_cons,List.not_mem_nil,or_false,not_or,<-beq_eq_false_iff_ne,iI,lF,gL,gS,fY,kD,fS,qN,nT,il]at h;obtain⟨_,_,_,_,_,_,_,_,_,_⟩:=h;have bu:V _:=JI s w;generalize lj s=us at bu;go_enter func141,ntmps141;go_wp2_with fail;go_at_call 157
 refine yaj bu.o ?_;rintro e aO (⟨rfl,rfl,rfl⟩|⟨B,rfl,rfl⟩)
 ·go_wp2;go_ret;exact .inl ⟨rfl,rfl,rfl⟩
 have u:V (us≠[]):=B;clear B;go_wp2;go_ret;exact .inr ⟨u.o,rfl,rfl⟩
theorem WB.pop{W R a n cap x}(h:WB W R (.slice a n cap) (S++[x])):WB W R (.slice a S.length cap) S:=by
 unfold WB at*;have ab:(S++[x]).length=S.length+1:=by simp
 rw[ab]at h;refine⟨by simp,?_⟩;rcases h.2 with⟨_,c⟩|⟨g,c,H,e,O,ax,Z,av,cj,bG⟩
 ·omega
 cases e;refine .inr ⟨g,_,_,rfl,O,ax,by omega,av,cj,?_⟩;have:H.toList.take (S.length*1)=(H.toList.take ((S.length+1)*1)).take S.length:=by grind
 simp_all
theorem M6(st):st.length<=wts st:=by
 induction st<;>grind[AS,wts]
theorem O8(s):wt s<=7:=by
 grind[wt]
theorem M7(st):wts st<=7*st.length:=by
 induction st<;>grind[wts,O8]
theorem O9(st):mu st<=7*st.length+1:=by
 grind[M7,mu]
theorem tZ{s st}(h:AQ st=false):it s st=st:=by
 cases st with
 |nil=>exact nG s
 |cons p r=>exact mj h
theorem ud(s):gC lN s=lj s:=rfl
theorem vD(s):gC kD s=[lN,fS]:=rfl
theorem vE(s):gC gS s=[kD,fY]:=rfl
theorem xy(s r):it s (lN::r)=lj s++r:=by
 rw[i7 xab,ud,tZ (vz s r)]
theorem si(s r):it s (kD::r)=lj s++fS::r:=by
 rw[i7 xab,vD];exact xy s _
theorem sj(s r):it s (gS::r)=lj s++fS::fY::r:=by
 rw[i7 xab,vE];exact si s _
theorem pZ(s st):(it s st).length<=st.length+10:=by
 match st with
 |[]=>rw[nG];simp
 |p::r=>
  cases h:jM p
  ·rw[mj h];omega
  have aH:=(vA s).2;rcases tS p s r with c|c|⟨e,c⟩|⟨e,c⟩|⟨e,c⟩
  ·rw[i7 h,c,List.nil_append];have:=pZ s r;rw[yaq];omega
  ·rw[i7 h,tZ c,yal,yaq];have:=yX p s;omega
  ·rw[e,sj,yal];simp only[yaq];omega
  ·rw[e,si,yal];simp only[yaq];omega
  rw[i7 h,c];show(it s (gS::il::r)).length<=_;rw[sj,yal];simp only[yaq];omega
termination_by st.length
theorem M8(w:World)(l):WC (w.alloc (.cells #[eN l] 9)) ⟨w.heap.size,0,none⟩ [l]:=by
 intro j x e;grind[jX,yav]
theorem WB.form{W R v}(f:WB W R v S):∃a cap,v=.slice a S.length cap:=by
 rcases f.2 with⟨e,c⟩|⟨g,cap,H,e,_⟩<;>grind
theorem RlT.uni{e}(h:RlT w S e I):∃br af m,e=.returned (.slice br m m)/\S.length=m/\(0<m->br=some ⟨af,0,none⟩)/\af=w.heap.size/\(0<m->af<I.heap.size)/\(∀q,q<m->I.cell? ⟨af,q,none⟩=some (eN (S.getD q [])))/\Kept 0 0 w I:=by
 rcases h with⟨rfl,rfl,rfl⟩|⟨_,rfl,rfl⟩
 ·grind[Kept.refl]
 refine⟨_,_,_,rfl,rfl,λ_=>rfl,rfl,λ_=>by simp,λq am=>?_,ez 0 0 w _⟩;simp_all
theorem Gj(w R v st s)(f:WB w R v st.reverse)(aS:R<=w.heap.size)(hn:st.length<=60000):
  Calls prog 115 #[v,eN s] w λe I=>∃v',e=.returned v'/\WB I R v' (it s st).reverse/\Chg (λb=>R<=b) w I:=by
 have aI:V _:=f;have ak:V _:=λp W=>M5 p s W;have bV:V _:=Gi;have aA:V _:=aS;have aa:V (mu st<=420001):=by have:=O9 st;show _<=_;omega
 obtain⟨E,ar⟩:∃E,E=it s st:=⟨_,rfl⟩
 rw[<-ar];have HE:V _:=ar.symm;clear f aS ar;go_enter func115,ntmps115;go_wp2_with fail;go_loopg [0] (mu st) (λm u W=>∃O,mu O=m/\V (m<=420001)/\O.length<=420010/\V (WB W R u O.reverse)/\V (Chg (λb=>R<=b) w W)/\V (it s O=E))
 case atStart=>exact⟨_,rfl,aa,by omega,aI,(Kept.refl 0 0 w).chg,HE⟩
 case round=>
  obtain⟨O,(y:V _),aq,ab,C,bT,aZ⟩:=hrel;cases O with
  |nil=>
   obtain⟨a,cap,rfl⟩:=WB.form C.o;have U:V _:=(nG s).symm.trans aZ.o;rw[show(([]:List _).reverse).length=0 from rfl];go_wp2_with fail;go_ret;exact⟨_,rfl,hQ U.o C.o,bT.o⟩
  |cons p r=>
   obtain⟨g,cap,aH,bp,aR,ad,P⟩:=WB.at_ C.o xac;have b9:((p::r).reverse).length=r.length+1:=by simp
   rw[b9]at aH P;subst aH
   have c1:wr.cell? ⟨g,r.length,none⟩=some (eN p):=by
    have:=ad r.length p xac;rwa [jX,Nat.zero_add]at this
   have l:V _:=bV.o p wr;have cz:r.length+1<=420010:=by simpa using ab
   clear ad b9 ab;cases aK:jM p
   ·have U:V _:=(mj aK).symm.trans aZ.o;rw[aK]at l;clear aK;go_wp2_with (go_at_call 140;refine yaj l.o ?_;rintro e aO ⟨rfl,an⟩;obtain rfl:=an.symm);go_ret;exact⟨_,rfl,hQ U.o C.o,bT.o⟩
   have U:V _:=(i7 aK).symm.trans aZ.o;have z:V (mu (gC p s++r)<gk):=by rw[<-y.o];exact BY p s r aK
   have n:V (r.length+(gC p s).length<=420010):=by
    have B:mu (p::r)=wt p+wts r+1:=by unfold mu AQ;rw[hG aK];rfl
    have J:=M6 r;have h3:=yX p s;have a0:=y.o;have bz:=aq.o;have bP:=AS p;show _<=_;omega
   rw[aK]at l;have G:V _:=ak.o p wr;generalize gC p s=k at z n G U
   have F:V (WB wr R (hC g r.length cap) r.reverse):=by
    have h:=WB.pop (by have:=C.o;rw[List.reverse_cons]at this;exact this);rw[List.length_reverse]at h;exact h
   clear aK C aZ y
   go_upto_region 3 with (first
    |(go_at_call 140;refine yaj l.o ?_;rintro e aO ⟨rfl,an⟩;obtain rfl:=an.symm)
    |(go_at_call 141;refine yaj G.o ?_;intro e ag al;obtain⟨br,af,m,rfl,K,N,ap,Q,av,ah⟩:=RlT.uni al))
   have ai:V _:=WB.keep F.o ah;have bF:V _:=Chg.andThen bT.o ah.chg;have H:V ((0<m->af<ag.heap.size)/\∀q,q<m->ag.cell? _=some _):=⟨Q,av⟩
   have aQ:V _:=K;have aw:g≠af:=xaa;have ci:=ah.size;have Z:V (R<=ag.heap.size):=by show _<=_;omega
   have X:V _:=N;rw[aQ.o]at n;have au:=n.o;clear al K N ap Q av ah c1 bT F l G;go_upto_region 5 with fail;go_loopw [0,6] (λu b4 W=>∃j:Nat,j<=m/\b4=hD ((j:Int)-1)/\V (WB W R u (k.drop j++r).reverse)/\V (Chg (λb=>R<=b) w W)/\V ((0<m->af<W.heap.size)/\(∀q,q<m->W.cell? ⟨af,q,none⟩=some (eN (k.getD q [])))/\(∀h,u.ownBlock=some h->h≠af)/\R<=W.heap.size)) (λ_ b4 _=>(intOf b4+1).toNat)
   case atStart=>
    refine⟨m,yad,rfl,?_,bF,⟨H.o.1,H.o.2,λh cG=>?_,Z.o⟩⟩
    ·rw[List.drop_eq_nil_of_le (by rw[aQ.o];exact yad),List.nil_append];exact ai
    simp[Value.ownBlock]at cG;omega
   case round=>
    obtain⟨j,hj,rfl,C,bT,aU⟩:=hrel;obtain⟨a,cp,t⟩:=WB.form C.o;subst t;by_cases bw:j=0
    ·subst bw;rw[List.drop_zero]at C;go_wp2_with fail;go_roundg (mu (k++r))
     case measure=>exact z.o
     case rel=>exact⟨_,rfl,(by show _<=_;have:=z.o;have:=aq.o;omega),by rw[yal,aQ.o];omega,C,bT,U⟩
    obtain⟨q,rfl⟩:∃q,j=q+1:=⟨j-1,by omega⟩
    have am:q<m:=xaa;obtain rfl:=X.o xaa;have c2:=aU.o.2.1 q am
    have HD:V (k.drop q=k.getD q []::k.drop (q+1)):=by
     show _=_;rw[List.drop_eq_getElem_cons (hO aQ.o am),yai,yam (hO aQ.o am)];rfl
    have b9:(k.drop (q+1)++r).reverse.length<=420010:=by
     rw[List.length_reverse,yal,List.length_drop,aQ.o];omega
    have b3:V _:=b9;generalize k.getD q _=x at c2 HD;generalize aj:(k.drop _++r).reverse=xs at C b9 b3 aU;have ao:V _:=aj;generalize bb:xs.length=nn at*;have bh:V _:=bb;clear aj bb;go_wp2_with (first|(at_builtin;refine tY _ rfl _ _ rfl R _ _ rfl (WB.keep C.o (ez 0 0 _ _)) _ 1 1 _ rfl rfl (M8 _ x) xab ?c2 ?c3 ?_)|fail)
    case c2=>have:=b3.o;have:=bh.o;omega
    case c3=>have:=aU.o.2.2.2;simp;omega
    intro g9 cap9 n9 bg bJ bM bI bL;have bx:=ez 0 0 wr (.cells #[eN x] 9)
    have R1:V (WB bg R (hC g9 n9 cap9) (k.drop q++r).reverse):=by
     show WB _ _ _ _;rw[HD.o,List.cons_append,List.reverse_cons,ao.o];exact bM
    have aX:∀b,(Value.slice a _ _).ownBlock=some b->_:=λb hb=>(WB.blk C.o hb).1;have R2:V _:=Chg.andThen (Chg.andThen bT.o bx.chg) ⟨bI.os,bI.tape,bI.output,bI.size,λi hi hn=>bI.block i hi (λc=>hn (aX i c))⟩
    have R3:V ((0<m->af<bg.heap.size)/\(∀q,q<m->bg.cell? ⟨af,q,none⟩=some (eN (k.getD q [])))/\(∀h,(hC g9 n9 cap9).ownBlock=some h->h≠af)/\R<=bg.heap.size):=by
     obtain⟨a1,Y,a3,a4⟩:=aU.o;have ae:=a1 xaa;have c9:=bI.size;have cg:(wr.alloc (.cells #[eN x] 9)).heap.size=wr.heap.size+1:=by simp
     refine⟨λ_=>by omega,λq am=>?_,λh cG=>?_,by omega⟩
     ·rw[bI.cell (by show af<_;omega) (λc=>a3 _ c rfl),bx.cell ae xaa];exact Y q am
     simp[Value.ownBlock]at cG;subst cG;rcases bL with c|c
     ·exact a3 _ c
     omega
    clear bM bI bL bx aX bJ;go_wp2_with fail;go_roundw
    case rel=>exact⟨q,by omega,by go_num,R1,R2,R3⟩
    case measure=>simp[intOf]
theorem TkA.keep{g off n}(h:TkA w g off n ts)(k:Kept 0 0 w I):TkA I g off n ts:=
 ⟨h.len,yak h.lt k.size,λj hj=>(k.cell (p:=⟨g,off+j*3,none⟩) h.lt xaa).trans (h.c0 j hj),λj hj=>(k.cell (p:=⟨g,off+j*3+1,none⟩) h.lt xaa).trans (h.c1 j hj),λj hj=>(k.cell (p:=⟨g,off+j*3+2,none⟩) h.lt xaa).trans (h.c2 j hj)⟩
theorem WB.lit1(w:World)(l):WB (w.alloc (.cells #[eN l] 9)) w.heap.size (hC w.heap.size 1 1) [l]:=
 World.ownsRow_lit (base:=w.heap.size) (e:=9) (size:=1) w #[eN l] 1 yad (by unfold maxLen;omega) rfl
theorem Gk{k}(h:k<ts.length):ts.drop k=ts.getD k hJ::ts.drop (k+1):=by
 simp_all
theorem vF{W W'}(k:Kept 0 0 w W)(c:Chg (λb=>w.heap.size<=b) W W'):Kept 0 0 w W':=Chg.kept k c (λ_ h=>h)
theorem xz(w bn)(m cap n:Nat)(ts)(ab:ts.length=m)(aq:m<=5000)(bh:0<m->∃g off,bn=some ⟨g,off,none⟩/\TkA w g off m ts):
  Calls prog 68 #[.slice bn m cap,hD n] w λe I=>e=.returned (hD (fE n ts [iI]))/\Kept 0 0 w I:=by
 have au:V _:=Gj;have b1:V _:=bh;have HL:V _:=ab;have bH:V (WB _ _ _ [iI].reverse):=WB.lit1 w _;obtain⟨E,ar⟩:∃E,E=fE n ts [iI]:=⟨_,rfl⟩
 rw[<-ar];have HE:V (fE n (ts.drop 0) _=E):=ar.symm;clear ar bh ab;go_enter func68,ntmps68;go_wp2_with fail;change Code.wp _ _ _ _ (w.alloc (.cells #[eN iI] 9));have bY:V _:=ez 0 0 w (.cells #[eN iI] 9);generalize w.alloc _=aO at bH bY⊢;go_loopw [5,6] (λv aD W=>∃(k:Nat) (st:List (List UInt8)),k<=m/\aD=hD k/\st.length<=1+10*k/\V (WB W w.heap.size v st.reverse)/\V (Kept 0 0 w W)/\V (fE n (ts.drop k) st=E)) (λ_ aD _=>m-(intOf aD).toNat)
 case atStart=>grind
 case round=>
  obtain⟨k,st,N,rfl,dv,C,aw,ar⟩:=hrel;by_cases aC:k<m
  ·obtain⟨g,off,rfl,aU⟩:=b1.o xaa;have c0:=(aU.keep aw.o).c0 k aC;have u:V _:=aU;have l:=ar.o;rw[Gk (hO HL.o aC)]at l;have bm:V _:=au.o _ _ _ _ (ts.getD k hJ).sym C.o aw.o.size xaa;have aj:V (∀W,Kept 0 0 w W->W.cell? _=some _/\W.cell? _=some _):=λW ai=>⟨(aU.keep ai).c0 k aC,(aU.keep ai).c1 k aC⟩
   generalize ts.getD k _=K at c0 l bm aj;have s:V _:=l;obtain⟨a,cp,t⟩:=WB.form C.o;generalize st.reverse.length=nn at t;have f:=pZ K.sym st;generalize bl:it _ _=q at bm f;have co:V _:=bl;clear bl l aU ar u;subst t;go_upto_region 6 with (go_at_call 115;refine yaj bm.o ?_;rintro e ag ⟨ba,rfl,y,i⟩);have bz:V _:=y;have bD:V _:=vF aw.o i;obtain⟨c1,c2⟩:=aj.o _ bD.o;clear y i c0 bm C aw;cases q with
   |nil=>
    obtain⟨Y,j,e2⟩:=WB.form bz.o;rw[show(([]:List _).reverse).length=0 from rfl]at e2;subst e2
    have U:V (K.pos=E):=by
     have h:=s.o;rw[fE,co.o]at h;exact h
    go_quiet (fail)
    have bR:V _:=Kept.trans bD.o (eK 0 0 _ nq);obtain⟨d1,d2⟩:=aj.o _ bR.o;generalize ag.drewN _=a7 at bR d1 d2⊢;clear c1 c2;go_wp2_with fail;go_ret;exact⟨congrArg (λz=>Ending.returned (.int _ z)) U.o,bR.o⟩
   |cons p r=>
    obtain⟨ap,j,e2,bp,aR,ad,P⟩:=WB.at_ bz.o xac;have b9:((p::r).reverse).length=r.length+1:=by simp
    rw[b9]at e2 P;subst e2
    have c3:ag.cell? ⟨ap,r.length,none⟩=some (eN p):=by
     have:=ad r.length p xac;rwa [jX,Nat.zero_add]at this
    have H:r.length+1<=100000:=by simp at f;omega
    have B:r.length<=10*k+10:=by simp at f;omega
    have bC:((r.length:Int)+1==0)=false:=by simp;omega
    have aN:IntKind.i64.wrap ((r.length:Nat)+1-1)=(r.length:Nat):=by rw[IntKind.wrap_i64];omega
    have a2:(0:Int)<=(r.length:Nat):=xaa;have bk:(r.length:Int)<(r.length:Nat)+1:=xaa;cases am:(p==K.sym)
    ·have cf:p≠K.sym:=λc=>by rw[c]at am;simp at am
     have U:V (K.pos=E):=by
      have h:=s.o;rw[fE,co.o]at h;simp only[hF cf]at h;exact h
     have x:(p !=K.sym)=true:=by unfold bne;rw[am];rfl
     clear ad b9 f cf;go_quiet (fail)
     have bR:V _:=Kept.trans bD.o (eK 0 0 _ nq);obtain⟨d1,d2⟩:=aj.o _ bR.o;generalize ag.drewN _=a7 at bR d1 d2⊢;clear c1 c2 c3;go_wp2_with fail;go_ret;exact⟨congrArg (λz=>Ending.returned (.int _ z)) U.o,bR.o⟩
    have Z:p=K.sym:=by simpa using am
    have U:V (fE n (ts.drop (k+1)) r=E):=by
     have h:=s.o;rw[fE,co.o]at h;simp only[hG Z]at h;exact h
    have F:V (WB ag w.heap.size (hC ap r.length j) r.reverse):=by
     have h:=WB.pop (by have:=bz.o;rw[List.reverse_cons]at this;exact this);rw[List.length_reverse]at h;exact h
    have x:(p !=K.sym)=false:=by unfold bne;rw[am];rfl
    clear ad b9 f Z bz;go_quiet (fail)
    have bR:V _:=Kept.trans bD.o (eK 0 0 _ nq);have G:V _:=WB.keep F.o (eK 0 0 _ nq);generalize ag.drewN _=a7 at bR G⊢;clear c1 c2 c3;go_wp2_with fail;go_roundw;exact⟨k+1,r,by omega,by go_num,by omega,G,bR,U⟩;simp[intOf];omega
  obtain rfl:k=m:=xaa;have l:=ar.o;rw[List.drop_eq_nil_of_le (by rw[HL.o];exact yad),fE]at l;have bm:V _:=au.o _ _ _ _ Jv C.o aw.o.size xaa;have s:V _:=l;obtain⟨a,cp,t⟩:=WB.form C.o;generalize st.reverse.length=nn at t;have f:=pZ Jv st;generalize it _ _=q at bm f s;clear l ar;subst t;go_upto_region 10 with (go_at_call 115;refine yaj bm.o ?_;rintro e ag ⟨ba,rfl,y,i⟩);have bz:V _:=y;have bD:V _:=vF aw.o i;clear y i bm C aw;obtain⟨Y,j,e2⟩:=WB.form bz.o;cases q with
  |nil=>
   rw[show(([]:List _).reverse).length=0 from rfl]at e2;subst e2;have U:V ((-1:Int)=E):=by have h:=s.o;rw[hG rfl]at h;exact h
   go_wp2_with fail;go_ret;exact⟨congrArg (λz=>Ending.returned (.int _ z)) U.o,bD.o⟩
  |cons p r=>
   rw[show((p::r).reverse).length=r.length+1 by simp]at e2;subst e2;have U:V (n=E):=by have h:=s.o;rw[hF xac]at h;exact h
   have H:r.length+1<=100000:=by simp at f;omega
   have bk:(0:Int)<(r.length:Nat)+1:=xaa;clear f;go_wp2_with fail;go_ret;exact⟨congrArg (λz=>Ending.returned (.int _ z)) U.o,bD.o⟩
end
section
variable{n k:Nat}{ts:List Tok}
def hdS:List Tok->List UInt8
 |[]=>Jv
 |t::_=>t.sym
theorem iP{n p r}(h:jM p=true):∀ts:List Tok,fE n ts (p::r)=fE n ts (gC p (hdS ts)++r)
 |[]=>by rw[fE,fE,i7 h];rfl
 |t::ts=>by rw[fE,fE,i7 h];rfl
theorem eU{n s r}(h:jM s=false):∀{ts:List Tok},fE n ts (s::r)=-1->∃t us,ts=t::us/\t.sym=s/\fE n us r=-1
 |[],an=>by
  grind[fE,mj]
 |t::us,an=>by
  grind[fE,mj]
def DD(n:Nat)(p:List UInt8)(l:Nat)(ts:List Tok):Prop:=∀r,fE n ts (p::r)=-1->∃e us ws,ts=us++ws/\Pr l [e] us/\fE n ws r=-1
def TkM(n:Nat)(p:List UInt8)(l:Nat)(ts:List Tok):Prop:=∀r a ls,Pr l [a] ls->fE n ts (p::r)=-1->∃e us ws,ts=us++ws/\Pr l [e] (ls++us)/\fE n ws r=-1
def Pa(n:Nat)(ts:List Tok):Prop:=∀r es ls,Pr 3 es ls->fE n ts (il::r)=-1->∃es' us ws,ts=us++ws/\Pr 3 es' (ls++us)/\fE n ws r=-1
structure Gr(n k:Nat):Prop where
 u:∀ts,ts.length<k->DD n lN 0 ts
 mu:∀ts,ts.length<k->TkM n fS 1 ts
 t:∀ts,ts.length<k->DD n kD 1 ts
 mt:∀ts,ts.length<k->TkM n fY 2 ts
 e:∀ts,ts.length<k->DD n gS 2 ts
 ma:∀ts,ts.length<k->Pa n ts
theorem L6(g:Gr n k)(ts)(N:ts.length<k+1):TkM n fS 1 ts:=by
 intro r a h ab an;rw[iP xab]at an;by_cases c:hdS ts=[42]\/hdS ts=[47]
 ·have aZ:gC fS (hdS ts)=[hdS ts,lN,fS]:=by
   rcases c with c|c<;>rw[c]<;>rfl
  rw[aZ]at an;obtain⟨o,us,rfl,al,an⟩:=eU (by rcases c with c|c<;>rw[c]<;>decide) an;rw[<-al]at c;obtain⟨b,f,au,rfl,J,an⟩:=g.u us (by simp at N;omega) _ an;obtain⟨e,H,q,rfl,h3,an⟩:=g.mu au (by simp at N;omega) r (.bin o a b) (h++o::f) (.mul ab c J) an;exact⟨e,o::(f++H),q,by simp,by simpa using h3,an⟩
 have aZ:gC fS (hdS ts)=[]:=by
  unfold gC;rw[hF xab,hF xab,hF xab,hF xab,hF xab,hF xab,hG rfl,hF c]
 rw[aZ]at an;exact⟨a,[],ts,rfl,by simpa using ab,an⟩
theorem ue(g:Gr n k)(N:ts.length<k+1){x U}(an:fE n ts (x::[40]::gS::U)=-1)(ak:jM x=false):∃p l e us au,ts=p::l::(us++au)/\p.sym=x/\l.sym=[40]/\Pr 2 [e] us/\fE n au U=-1/\au.length<k:=by
 obtain⟨p,us,rfl,av,an⟩:=eU ak an;obtain⟨l,us,rfl,ab,an⟩:=eU xab an;obtain⟨e,f,au,rfl,J,an⟩:=g.e _ (by grind) _ an;grind
theorem Pb(g:Gr n k)(ts)(N:ts.length<k+1):DD n lN 0 ts:=by
 intro r an;rw[iP xab,ud]at an;generalize hdS _=s at an;by_cases h:s∈UL
 ·simp only[UL,List.mem_cons,List.not_mem_nil,or_false]at h;rcases h with rfl|rfl|rfl|rfl|rfl|rfl|rfl|rfl|rfl|rfl|rfl|rfl|rfl|rfl
  ·obtain⟨o,us,rfl,al,an⟩:=eU xab an;obtain⟨e,f,au,rfl,J,an⟩:=g.u _ (by grind) _ an;exact⟨_,_,_,rfl,.neg al J,an⟩
  ·obtain⟨t,us,rfl,ht,an⟩:=eU xab an;have an:fE n _ (qN::r)=-1:=an;rw[iP xab]at an;by_cases c:hdS us=[40]
   ·rw[c]at an;obtain⟨l,f,rfl,ab,an⟩:=eU xab an;have an:fE n _ (nT::[41]::r)=-1:=an;rw[iP xab]at an;by_cases c2:hdS f=[41]
    ·rw[c2]at an;obtain⟨j,H,rfl,av,an⟩:=eU xab an;exact⟨_,_,_,rfl,.call0 ht ab av,an⟩
    rw[show gC nT _=[gS,il] by simp[gC,c2,iI,lF,gL,gS,fY,kD,fS,qN,nT]]at an;obtain⟨e,H,au,rfl,J,an⟩:=g.e _ (by grind) _ an;obtain⟨es,gT,q,rfl,h3,an⟩:=g.ma _ (by grind) _ _ _ (.arg1 J) an;obtain⟨j,C,rfl,av,an⟩:=eU xab an;exact⟨_,_,_,by simp,.call ht ab h3 av,an⟩
   rw[show gC qN _=[] by simp[gC,c,iI,lF,gL,gS,fY,kD,fS,qN]]at an;exact⟨_,_,_,rfl,.name ht,an⟩
  ·obtain⟨l,us,rfl,ab,an⟩:=eU xab an;obtain⟨e,f,au,rfl,J,an⟩:=g.e _ (by grind) _ an;obtain⟨j,H,rfl,av,an⟩:=eU xab an;exact⟨_,_,_,by simp,.par ab J av,an⟩
  iterate 2
   ·obtain⟨p,l,e,us,au,rfl,B,ab,J,an,b2⟩:=ue g N an xab
    obtain⟨j,u,rfl,av,an⟩:=eU xab an
    exact⟨_,p::l::(us++[j]),_,by simp,.key1 (by first|exact .inl B|exact .inr B) ab J av,an⟩
  iterate 2
   ·obtain⟨p,l,e,us,au,rfl,B,ab,J,an,b2⟩:=ue g N an xab
    obtain⟨c,v,rfl,ad,an⟩:=eU xab an
    obtain⟨e2,u2,ag,rfl,h3,an⟩:=g.e _ (by grind) _ an
    obtain⟨j,u,rfl,av,an⟩:=eU xab an
    exact⟨_,p::l::(us++c::(u2++[j])),_,by simp,.key2 (by first|exact .inl B|exact .inr B) ab J ad h3 av,an⟩
  ·obtain⟨p,l,e,us,au,rfl,B,ab,J,an,b2⟩:=ue g N an xab;obtain⟨c,v,rfl,ad,an⟩:=eU xab an;obtain⟨e2,u2,ag,rfl,h3,an⟩:=g.e _ (by grind) _ an;obtain⟨c2,w,rfl,T,an⟩:=eU xab an;obtain⟨af,u3,a7,rfl,a0,an⟩:=g.e _ (by grind) _ an;obtain⟨j,u,rfl,av,an⟩:=eU xab an;exact⟨_,_,_,by simp,.key3 B ab J ad h3 T a0 av,an⟩
  iterate 2
   ·obtain⟨p,l,e,us,au,rfl,B,ab,J,an,b2⟩:=ue g N an xab
    obtain⟨c,v,rfl,ad,an⟩:=eU xab an
    obtain⟨m,y,rfl,aq,an⟩:=eU xab an
    obtain⟨j,u,rfl,av,an⟩:=eU xab an
    exact⟨_,p::l::(us++[c,m,j]),_,by simp,.keyN (by first|exact .inl B|exact .inr B) ab J ad aq av,an⟩
  ·obtain⟨p,l,e,us,au,rfl,B,ab,J,an,b2⟩:=ue g N an xab;obtain⟨c,v,rfl,ad,an⟩:=eU xab an;obtain⟨i,F,rfl,hi,an⟩:=eU xab an;obtain⟨c2,w,rfl,T,an⟩:=eU xab an;obtain⟨m,y,rfl,aq,an⟩:=eU xab an;obtain⟨j,u,rfl,av,an⟩:=eU xab an;exact⟨_,_,_,by simp,.put B ab J ad hi T aq av,an⟩
  ·obtain⟨p,l,e,us,au,rfl,B,ab,J,an,b2⟩:=ue g N an xab;obtain⟨c,v,rfl,ad,an⟩:=eU xab an;obtain⟨x,z,rfl,ak,an⟩:=eU xab an;obtain⟨j,u,rfl,av,an⟩:=eU xab an;exact⟨_,_,_,by simp,.grad B ab J ad ak av,an⟩
  ·obtain⟨p,l,e,us,au,rfl,B,ab,J,an,b2⟩:=ue g N an xab;obtain⟨c,v,rfl,ad,an⟩:=eU xab an;obtain⟨x,z,rfl,ak,an⟩:=eU xab an;obtain⟨c2,w,rfl,T,an⟩:=eU xab an;obtain⟨af,u3,a7,rfl,a0,an⟩:=g.e _ (by grind) _ an;obtain⟨j,u,rfl,av,an⟩:=eU xab an;exact⟨_,_,_,by simp,.jvp B ab J ad ak T a0 av,an⟩
  obtain⟨t,us,rfl,ht,an⟩:=eU xab an;exact⟨_,_,_,rfl,.num (.inr ht),an⟩
 rw[xn h]at an;obtain⟨t,us,rfl,ht,an⟩:=eU xab an;exact⟨_,_,_,rfl,.num (.inl ht),an⟩
theorem Pc(g:Gr n k)(ts)(N:ts.length<k+1):DD n kD 1 ts:=by
 intro r an;rw[iP xab,vD]at an;obtain⟨a,us,au,rfl,B,an⟩:=Pb g _ N _ an;obtain⟨e,H,q,rfl,J,an⟩:=L6 g _ (by grind) r a _ (.up01 B) an;grind
theorem L7(g:Gr n k)(ts)(N:ts.length<k+1):TkM n fY 2 ts:=by
 intro r a h ab an;rw[iP xab]at an;by_cases c:hdS ts=[43]\/hdS ts=[45]
 ·have aZ:gC fY (hdS ts)=[hdS ts,kD,fY]:=by
   rcases c with c|c<;>rw[c]<;>rfl
  rw[aZ]at an;obtain⟨o,us,rfl,al,an⟩:=eU (by rcases c with c|c<;>rw[c]<;>decide) an;rw[<-al]at c;obtain⟨b,f,au,rfl,J,an⟩:=g.t us (by simp at N;omega) _ an;obtain⟨e,H,q,rfl,h3,an⟩:=g.mt au (by simp at N;omega) r (.bin o a b) (h++o::f) (.add ab c J) an;exact⟨e,o::(f++H),q,by simp,by simpa using h3,an⟩
 have aZ:gC fY (hdS ts)=[]:=by
  unfold gC;rw[hF xab,hF xab,hF xab,hF xab,hG rfl,hF c]
 rw[aZ]at an;exact⟨a,[],ts,rfl,by simpa using ab,an⟩
theorem P4(g:Gr n k)(ts)(N:ts.length<k+1):DD n gS 2 ts:=by
 intro r an;rw[iP xab,vE]at an;obtain⟨a,us,au,rfl,B,an⟩:=Pc g _ N _ an;obtain⟨e,H,q,rfl,J,an⟩:=L7 g _ (by grind) r a _ (.up12 B) an;grind
theorem Pd(g:Gr n k)(ts)(N:ts.length<k+1):Pa n ts:=by
 intro r es h ab an;rw[iP xab]at an;by_cases c:hdS ts=[44]
 ·have aZ:gC il (hdS ts)=[[44],gS,il]:=by rw[c];rfl
  rw[aZ]at an;obtain⟨o,us,rfl,al,an⟩:=eU xab an;obtain⟨b,f,au,rfl,J,an⟩:=g.e us (by simp at N;omega) _ an;obtain⟨e,H,q,rfl,h3,an⟩:=g.ma au (by simp at N;omega) r _ (h++o::f) (.argM ab al J) an;exact⟨e,o::(f++H),q,by simp,by simpa using h3,an⟩
 have aZ:gC il (hdS ts)=[]:=by
  unfold gC;rw[hF xab,hF xab,hF xab,hF xab,hF xab,hF xab,hF xab,hF xab,hF xab,hG rfl,hF c]
 rw[aZ]at an;exact⟨es,[],ts,rfl,by simpa using ab,an⟩
theorem qd(n):∀k,Gr n k
 |0=>⟨λ_ h=>by omega,λ_ h=>by omega,λ_ h=>by omega,λ_ h=>by omega,λ_ h=>by omega,λ_ h=>by omega⟩
 |k+1=>⟨Pb (qd n k),L6 (qd n k),Pc (qd n k),L7 (qd n k),P4 (qd n k),Pd (qd n k)⟩
theorem qS{r}(h:fE n ts (gS::r)=-1):∃e us au,ts=us++au/\Pr 2 [e] us/\fE n au r=-1:=(qd n (ts.length+1)).e ts yaf r h
