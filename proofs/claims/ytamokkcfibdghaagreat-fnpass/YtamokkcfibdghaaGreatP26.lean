import Derived.Test.YtamokkcfibdghaaGreatP25
namespace Go.Proofs.Z
open Tryz Go.RowKit Flt
set_option maxRecDepth 1000000
set_option maxHeartbeats 0
section
attribute [local go_sem] eG eE eD
variable {w J:World}{ts:List Tok}{U:List (List UInt8)}
def RlT (w:World)(ss:List (List UInt8))(e:Ending)(w':World):Prop:=(ss=[]/\e=.returned (.slice none 0 0)/\w'=w)\/(ss≠[]/\e=.returned (.slice (some ⟨w.heap.size,0,none⟩) ss.length ss.length)/\w'=w.alloc (.cells (ss.map λl=>eN l).toArray 9))
theorem O7(l h):(((⟨l.toArray⟩:ByteArray)[0]'h).toNat:Int)=bt l 0:=by
 cases l with
 |nil=>simp[ByteArray.size]at h
 |cons a r=>rfl
theorem F7(l w):Calls prog 120 #[eN l] w λe J=>e=.returned (.bool (jR l))/\J=w:=by
 have ad:=gl l;have bV:=O7 l;unfold jR;generalize bt l 0=x at bV⊢;cases aQ:decide (1<l.length)
 ·have t:¬((1:Int)<l.length):=by simp at aQ;omega
  go_enter func120,ntmps120;go_wp2;go_ret;exact⟨rfl,rfl⟩
 have aj:1<l.length:=by simpa using aQ
 have B:0<l.length:=xaa;have t:(1:Int)<l.length:=xaa;cases a6:decide (65<=x)<;>(go_enter func120,ntmps120;go_wp2;go_ret;exact⟨rfl,rfl⟩)
theorem JZ(s w):Calls prog 137 #[eN s] w (RlT w (lh s)):=by
 by_cases h:s∈UL
 ·simp only[UL,List.mem_cons,List.not_mem_nil,or_false]at h;rcases h with rfl|rfl|rfl|rfl|rfl|rfl|rfl|rfl|rfl|rfl|rfl|rfl|rfl|rfl<;>(go_enter func137,ntmps137;go_wp2;go_ret;exact .inr ⟨by decide,rfl,rfl⟩)
 rw[xu h];simp only[UL,List.mem_cons,List.not_mem_nil,or_false,not_or,<-beq_eq_false_iff_ne]at h;obtain⟨_,_,_,_,_,_,_,_,_,_,_,_,_,_⟩:=h;go_enter func137,ntmps137;go_wp2;go_ret;exact .inr ⟨by decide,rfl,rfl⟩
theorem Nr(p s w):Calls prog 121 #[eN p,eN s] w (RlT w (gD p s)):=by
 by_cases h:p∈PQ
 ·have H:=@FK p s h;simp only[PQ,List.mem_cons,List.not_mem_nil,or_false]at h;by_cases ad:s∈RL
  ·clear H;simp only[RL,List.mem_cons,List.not_mem_nil,or_false]at ad;rcases h with rfl|rfl|rfl|rfl|rfl|rfl|rfl|rfl|rfl|rfl<;>rcases ad with rfl|rfl|rfl|rfl|rfl|rfl|rfl|rfl|rfl|rfl|rfl|rfl|rfl<;>(go_enter func121,ntmps121;go_wp2;go_ret;first|exact .inl ⟨rfl,rfl,rfl⟩|exact .inr ⟨by decide,rfl,rfl⟩)
  rw[H ad];clear H;simp only[RL,List.mem_cons,List.not_mem_nil,or_false,not_or,<-beq_eq_false_iff_ne]at ad;obtain⟨_,_,_,_,_,_,_,_,_,_,_,_,_⟩:=ad;rcases h with rfl|rfl|rfl|rfl|rfl|rfl|rfl|rfl|rfl|rfl<;>(go_enter func121,ntmps121;go_wp2;go_ret;first|exact .inl ⟨rfl,rfl,rfl⟩|exact .inr ⟨by decide,rfl,rfl⟩)
 rw[FJ s h];simp only[PQ,List.mem_cons,List.not_mem_nil,or_false,not_or,<-beq_eq_false_iff_ne,iN,lD,gN,gU,f8,kG,fW,qz,nJ,io]at h;obtain⟨_,_,_,_,_,_,_,_,_,_⟩:=h;have bD:V _:=JZ s w;generalize lh s=us at bD;go_enter func121,ntmps121;go_wp2_with fail;go_at_call 137
 refine yai bD.o ?_;rintro e aB (⟨rfl,rfl,rfl⟩|⟨B,rfl,rfl⟩)
 ·go_wp2;go_ret;exact .inl ⟨rfl,rfl,rfl⟩
 have u:V (us≠[]):=B;clear B;go_wp2;go_ret;exact .inr ⟨u.o,rfl,rfl⟩
theorem WB.pop{W I a n cap x}(h:WB W I (.slice a n cap) (U++[x])):WB W I (.slice a U.length cap) U:=by
 unfold WB at*;have ah:(U++[x]).length=U.length+1:=by simp
 rw[ah]at h;refine⟨by simp,?_⟩;rcases h.2 with⟨_,c⟩|⟨g,c,H,e,N,aA,ab,aI,b9,cn⟩
 ·omega
 cases e;refine .inr ⟨g,_,_,rfl,N,aA,by omega,aI,b9,?_⟩;have:H.toList.take (U.length*1)=(H.toList.take ((U.length+1)*1)).take U.length:=by grind
 simp_all
theorem Ns(st):st.length<=wts st:=by
 induction st<;>grind [AU,wts]
theorem O8(s):wt s<=7:=by
 grind [wt]
theorem Nt(st):wts st<=7*st.length:=by
 induction st<;>grind [wts,O8]
theorem O9(st):mu st<=7*st.length+1:=by
 grind [Nt,mu]
theorem tR{s st}(h:AT st=false):iw s st=st:=by
 cases st with
 |nil=>exact nC s
 |cons p r=>exact me h
theorem tS(s):gD lN s=lh s:=rfl
theorem vr(s):gD kG s=[lN,fW]:=rfl
theorem vu(s):gD gU s=[kG,f8]:=rfl
theorem xG(s r):iw s (lN::r)=lh s++r:=by
 rw[i8 xab,tS,tR (vi s r)]
theorem rY(s r):iw s (kG::r)=lh s++fW::r:=by
 rw[i8 xab,vr];exact xG s _
theorem rZ(s r):iw s (gU::r)=lh s++fW::f8::r:=by
 rw[i8 xab,vu];exact rY s _
theorem pL(s st):(iw s st).length<=st.length+10:=by
 match st with
 |[]=>rw[nC];simp
 |p::r=>
  cases h:jR p
  ·rw[me h];omega
  have aJ:=(vm s).2;rcases tH p s r with c|c|⟨e,c⟩|⟨e,c⟩|⟨e,c⟩
  ·rw[i8 h,c,List.nil_append];have:=pL s r;rw[yap];omega
  ·rw[i8 h,tR c,yak,yap];have:=y9 p s;omega
  ·rw[e,rZ,yak];simp only[yap];omega
  ·rw[e,rY,yak];simp only[yap];omega
  rw[i8 h,c];show(iw s (gU::io::r)).length<=_;rw[rZ,yak];simp only[yap];omega
termination_by st.length
theorem Nu(w:World)(l):WC (w.alloc (.cells #[eN l] 9)) ⟨w.heap.size,0,none⟩ [l]:=by
 intro j x e;grind [kj,yau]
theorem WB.form{W I v}(f:WB W I v U):∃a cap,v=.slice a U.length cap:=by
 rcases f.2 with⟨e,c⟩|⟨g,cap,H,e,_⟩<;>grind
theorem RlT.uni{e}(h:RlT w U e J):∃cf al m,e=.returned (.slice cf m m)/\U.length=m/\(0<m->cf=some ⟨al,0,none⟩)/\al=w.heap.size/\(0<m->al<J.heap.size)/\(∀q,q<m->J.cell? ⟨al,q,none⟩=some (eN (U.getD q [])))/\Kept 0 0 w J:=by
 rcases h with⟨rfl,rfl,rfl⟩|⟨_,rfl,rfl⟩
 ·grind [Kept.refl]
 refine⟨_,_,_,rfl,rfl,λ_=>rfl,rfl,λ_=>by simp,λq aq=>?_,ez 0 0 w _⟩;simp_all
theorem F8(w I v st s)(f:WB w I v st.reverse)(aS:I<=w.heap.size)(hn:st.length<=60000):
  Calls prog 90 #[v,eN s] w λe J=>∃v',e=.returned v'/\WB J I v' (iw s st).reverse/\Chg (λb=>I<=b) w J:=by
 have aP:V _:=f;have an:V _:=λp W=>Nr p s W;have aW:V _:=F7;have aI:V _:=aS;have ad:V (mu st<=420001):=by have:=O9 st;show _<=_;omega
 obtain⟨E,b2⟩:∃E,E=iw s st:=⟨_,rfl⟩
 rw[<-b2];have HE:V _:=b2.symm;clear f aS b2;go_enter func90,ntmps90;go_wp2_with fail;go_loopg [0] (mu st) (λm u W=>∃N,mu N=m/\V (m<=420001)/\N.length<=420010/\V (WB W I u N.reverse)/\V (Chg (λb=>I<=b) w W)/\V (iw s N=E))
 case atStart=>exact⟨_,rfl,ad,by omega,aP,(Kept.refl 0 0 w).chg,HE⟩
 case round=>
  obtain⟨N,(z:V _),az,ah,C,ap,aT⟩:=hrel;cases N with
  |nil=>
   obtain⟨a,cap,rfl⟩:=WB.form C.o;have aa:V _:=(nC s).symm.trans aT.o;rw[show(([]:List _).reverse).length=0 from rfl];go_wp2_with fail;go_ret;exact⟨_,rfl,hV aa.o C.o,ap.o⟩
  |cons p r=>
   obtain⟨g,cap,aJ,ak,a5,ai,P⟩:=WB.at_ C.o xac;have b4:((p::r).reverse).length=r.length+1:=by simp
   rw[b4]at aJ P;subst aJ
   have c1:wr.cell? ⟨g,r.length,none⟩=some (eN p):=by
    have:=ai r.length p xac;rwa [kj,Nat.zero_add]at this
   have o:V _:=aW.o p wr;have l:r.length+1<=420010:=by simpa using ah
   clear ai b4 ah;cases aK:jR p
   ·have aa:V _:=(me aK).symm.trans aT.o;rw[aK]at o;clear aK;go_wp2_with (go_at_call 120;refine yai o.o ?_;rintro e aB ⟨rfl,S⟩;obtain rfl:=S.symm);go_ret;exact⟨_,rfl,hV aa.o C.o,ap.o⟩
   have aa:V _:=(i8 aK).symm.trans aT.o;have G:V (mu (gD p s++r)<gk):=by rw[<-z.o];exact BT p s r aK
   have y:V (r.length+(gD p s).length<=420010):=by
    have B:mu (p::r)=wt p+wts r+1:=by unfold mu AT;rw[hK aK];rfl
    have R:=Ns r;have h3:=y9 p s;have a8:=z.o;have bQ:=az.o;have bV:=AU p;show _<=_;omega
   rw[aK]at o;have H:V _:=an.o p wr;generalize gD p s=n at G y H aa
   have F:V (WB wr I (hH g r.length cap) r.reverse):=by
    have h:=WB.pop (by have:=C.o;rw[List.reverse_cons]at this;exact this);rw[List.length_reverse]at h;exact h
   clear aK C aT z
   go_upto_region 3 with (first
    |(go_at_call 120;refine yai o.o ?_;rintro e aB ⟨rfl,S⟩;obtain rfl:=S.symm)
    |(go_at_call 121;refine yai H.o ?_;intro e af av;obtain⟨cf,al,m,rfl,Q,bD,aw,X,Y,ao⟩:=RlT.uni av))
   have am:V _:=WB.keep F.o ao;have bw:V _:=Chg.andThen ap.o ao.chg;have O:V ((0<m->al<af.heap.size)/\∀q,q<m->af.cell? _=some _):=⟨X,Y⟩
   have bd:V _:=Q;have ay:g≠al:=xaa;have cc:=ao.size;have ae:V (I<=af.heap.size):=by show _<=_;omega
   have ab:V _:=bD;rw[bd.o]at y;have ax:=y.o;clear av Q bD aw X Y ao c1 ap F o H;go_upto_region 5 with fail;go_loopw [0,6] (λu cn W=>∃j:Nat,j<=m/\cn=hI ((j:Int)-1)/\V (WB W I u (n.drop j++r).reverse)/\V (Chg (λb=>I<=b) w W)/\V ((0<m->al<W.heap.size)/\(∀q,q<m->W.cell? ⟨al,q,none⟩=some (eN (n.getD q [])))/\(∀h,u.ownBlock=some h->h≠al)/\I<=W.heap.size)) (λ_ cn _=>(intOf cn+1).toNat)
   case atStart=>
    refine⟨m,yad,rfl,?_,bw,⟨O.o.1,O.o.2,λh b3=>?_,ae.o⟩⟩
    ·rw[List.drop_eq_nil_of_le (by rw[bd.o];exact yad),List.nil_append];exact am
    simp[Value.ownBlock]at b3;omega
   case round=>
    obtain⟨j,hj,rfl,C,ap,a7⟩:=hrel;obtain⟨a,bR,t⟩:=WB.form C.o;subst t;by_cases K:j=0
    ·subst K;rw[List.drop_zero]at C;go_wp2_with fail;go_roundg (mu (n++r))
     case measure=>exact G.o
     case rel=>exact⟨_,rfl,(by show _<=_;have:=G.o;have:=az.o;omega),by rw[yak,bd.o];omega,C,ap,aa⟩
    obtain⟨q,rfl⟩:∃q,j=q+1:=⟨j-1,by omega⟩
    have aq:q<m:=xaa;obtain rfl:=ab.o xaa;have c2:=a7.o.2.1 q aq
    have HD:V (n.drop q=n.getD q []::n.drop (q+1)):=by
     show _=_;rw[List.drop_eq_getElem_cons (hU bd.o aq),yah,yal (hU bd.o aq)];rfl
    have b4:(n.drop (q+1)++r).reverse.length<=420010:=by
     rw[List.length_reverse,yak,List.length_drop,bd.o];omega
    have co:V _:=b4;generalize n.getD q _=x at c2 HD;generalize au:(n.drop _++r).reverse=xs at C b4 co a7;have ar:V _:=au;generalize bF:xs.length=nn at*;have bz:V _:=bF;clear au bF;go_wp2_with (first|(at_builtin;refine tQ _ rfl _ _ rfl I _ _ rfl (WB.keep C.o (ez 0 0 _ _)) _ 1 1 _ rfl rfl (Nu _ x) xab ?c2 ?c3 ?_)|fail)
    case c2=>have:=co.o;have:=bz.o;omega
    case c3=>have:=a7.o.2.2.2;simp;omega
    intro g9 cap9 n9 bo bS bZ ag cj;have bH:=ez 0 0 wr (.cells #[eN x] 9)
    have R1:V (WB bo I (hH g9 n9 cap9) (n.drop q++r).reverse):=by
     show WB _ _ _ _;rw[HD.o,List.cons_append,List.reverse_cons,ar.o];exact bZ
    have bq:∀b,(Value.slice a _ _).ownBlock=some b->_:=λb hb=>(WB.blk C.o hb).1;have R2:V _:=Chg.andThen (Chg.andThen ap.o bH.chg) ⟨ag.os,ag.tape,ag.output,ag.size,λi hi hn=>ag.block i hi (λc=>hn (bq i c))⟩
    have R3:V ((0<m->al<bo.heap.size)/\(∀q,q<m->bo.cell? ⟨al,q,none⟩=some (eN (n.getD q [])))/\(∀h,(hH g9 n9 cap9).ownBlock=some h->h≠al)/\I<=bo.heap.size):=by
     obtain⟨a1,a2,a3,a4⟩:=a7.o;have aj:=a1 xaa;have bO:=ag.size;have b9:(wr.alloc (.cells #[eN x] 9)).heap.size=wr.heap.size+1:=by simp
     refine⟨λ_=>by omega,λq aq=>?_,λh b3=>?_,by omega⟩
     ·rw[ag.cell (by show al<_;omega) (λc=>a3 _ c rfl),bH.cell aj xaa];exact a2 q aq
     simp[Value.ownBlock]at b3;subst b3;rcases cj with c|c
     ·exact a3 _ c
     omega
    clear bZ ag cj bH bq bS;go_wp2_with fail;go_roundw
    case rel=>exact⟨q,by omega,by go_num,R1,R2,R3⟩
    case measure=>simp[intOf]
theorem TkA.keep{g off n}(h:TkA w g off n ts)(k:Kept 0 0 w J):TkA J g off n ts:=
 ⟨h.len,yaj h.lt k.size,λj hj=>(k.cell (p:=⟨g,off+j*3,none⟩) h.lt xaa).trans (h.c0 j hj),λj hj=>(k.cell (p:=⟨g,off+j*3+1,none⟩) h.lt xaa).trans (h.c1 j hj),λj hj=>(k.cell (p:=⟨g,off+j*3+2,none⟩) h.lt xaa).trans (h.c2 j hj)⟩
theorem WB.lit1(w:World)(l):WB (w.alloc (.cells #[eN l] 9)) w.heap.size (hH w.heap.size 1 1) [l]:=
 World.ownsRow_lit (base:=w.heap.size) (e:=9) (size:=1) w #[eN l] 1 yad (by unfold maxLen;omega) rfl
theorem F9{k}(h:k<ts.length):ts.drop k=ts.getD k hN::ts.drop (k+1):=by
 simp_all
theorem vw{W W'}(k:Kept 0 0 w W)(c:Chg (λb=>w.heap.size<=b) W W'):Kept 0 0 w W':=Chg.kept k c (λ_ h=>h)
theorem xH(w b0)(m cap n:Nat)(ts)(ah:ts.length=m)(az:m<=5000)(bi:0<m->∃g off,b0=some ⟨g,off,none⟩/\TkA w g off m ts):
  Calls prog 54 #[.slice b0 m cap,hI n] w λe J=>e=.returned (hI (fH n ts [iN]))/\Kept 0 0 w J:=by
 have aw:V _:=F8;have bP:V _:=bi;have HL:V _:=ah;have bb:V (WB _ _ _ [iN].reverse):=WB.lit1 w _;obtain⟨E,b2⟩:∃E,E=fH n ts [iN]:=⟨_,rfl⟩
 rw[<-b2];have HE:V (fH n (ts.drop 0) _=E):=b2.symm;clear b2 bi ah;go_enter func54,ntmps54;go_wp2_with fail;change Code.wp _ _ _ _ (w.alloc (.cells #[eN iN] 9));have bW:V _:=ez 0 0 w (.cells #[eN iN] 9);generalize w.alloc _=aB at bb bW⊢;go_loopw [5,6] (λv aL W=>∃(k:Nat) (st:List (List UInt8)),k<=m/\aL=hI k/\st.length<=1+10*k/\V (WB W w.heap.size v st.reverse)/\V (Kept 0 0 w W)/\V (fH n (ts.drop k) st=E)) (λ_ aL _=>m-(intOf aL).toNat)
 case atStart=>grind
 case round=>
  obtain⟨k,st,O,rfl,cR,C,aH,b2⟩:=hrel;by_cases aF:k<m
  ·obtain⟨g,off,rfl,a7⟩:=bP.o xaa;have c0:=(a7.keep aH.o).c0 k aF;have l:V _:=a7;have q:=b2.o;rw[F9 (hU HL.o aF)]at q;have b3:V _:=aw.o _ _ _ _ (ts.getD k hN).sym C.o aH.o.size xaa;have av:V (∀W,Kept 0 0 w W->W.cell? _=some _/\W.cell? _=some _):=λW ap=>⟨(a7.keep ap).c0 k aF,(a7.keep ap).c1 k aF⟩
   generalize ts.getD k _=K at c0 q b3 av;have o:V _:=q;obtain⟨a,bR,t⟩:=WB.form C.o;generalize st.reverse.length=nn at t;have f:=pL K.sym st;generalize cG:iw _ _=j at b3 f;have aT:V _:=cG;clear cG q a7 b2 l;subst t;go_upto_region 6 with (go_at_call 90;refine yai b3.o ?_;rintro e af ⟨bd,rfl,y,i⟩);have aJ:V _:=y;have bN:V _:=vw aH.o i;obtain⟨c1,c2⟩:=av.o _ bN.o;clear y i c0 b3 C aH;cases j with
   |nil=>
    obtain⟨a2,B,a9⟩:=WB.form aJ.o;rw[show(([]:List _).reverse).length=0 from rfl]at a9;subst a9
    have aa:V (K.pos=E):=by
     have h:=o.o;rw[fH,aT.o]at h;exact h
    go_quiet (fail)
    have aV:V _:=Kept.trans bN.o (eM 0 0 _ nq);obtain⟨d1,d2⟩:=av.o _ aV.o;generalize af.drewN _=aX at aV d1 d2⊢;clear c1 c2;go_wp2_with fail;go_ret;exact⟨congrArg (λz=>Ending.returned (.int _ z)) aa.o,aV.o⟩
   |cons p r=>
    obtain⟨ag,B,a9,ak,a5,ai,P⟩:=WB.at_ aJ.o xac;have b4:((p::r).reverse).length=r.length+1:=by simp
    rw[b4]at a9 P;subst a9
    have c3:af.cell? ⟨ag,r.length,none⟩=some (eN p):=by
     have:=ai r.length p xac;rwa [kj,Nat.zero_add]at this
    have R:r.length+1<=100000:=by simp at f;omega
    have x:r.length<=10*k+10:=by simp at f;omega
    have bM:((r.length:Int)+1==0)=false:=by simp;omega
    have aZ:IntKind.i64.wrap ((r.length:Nat)+1-1)=(r.length:Nat):=by rw[IntKind.wrap_i64];omega
    have be:(0:Int)<=(r.length:Nat):=xaa;have bz:(r.length:Int)<(r.length:Nat)+1:=xaa;cases aq:(p==K.sym)
    ·have bT:p≠K.sym:=λc=>by rw[c]at aq;simp at aq
     have aa:V (K.pos=E):=by
      have h:=o.o;rw[fH,aT.o]at h;simp only[hJ bT]at h;exact h
     have u:(p !=K.sym)=true:=by unfold bne;rw[aq];rfl
     clear ai b4 f bT;go_quiet (fail)
     have aV:V _:=Kept.trans bN.o (eM 0 0 _ nq);obtain⟨d1,d2⟩:=av.o _ aV.o;generalize af.drewN _=aX at aV d1 d2⊢;clear c1 c2 c3;go_wp2_with fail;go_ret;exact⟨congrArg (λz=>Ending.returned (.int _ z)) aa.o,aV.o⟩
    have ab:p=K.sym:=by simpa using aq
    have aa:V (fH n (ts.drop (k+1)) r=E):=by
     have h:=o.o;rw[fH,aT.o]at h;simp only[hK ab]at h;exact h
    have F:V (WB af w.heap.size (hH ag r.length B) r.reverse):=by
     have h:=WB.pop (by have:=aJ.o;rw[List.reverse_cons]at this;exact this);rw[List.length_reverse]at h;exact h
    have u:(p !=K.sym)=false:=by unfold bne;rw[aq];rfl
    clear ai b4 f ab aJ;go_quiet (fail)
    have aV:V _:=Kept.trans bN.o (eM 0 0 _ nq);have s:V _:=WB.keep F.o (eM 0 0 _ nq);generalize af.drewN _=aX at aV s⊢;clear c1 c2 c3;go_wp2_with fail;go_roundw
    case rel=>exact⟨k+1,r,by omega,by go_num,by omega,s,aV,aa⟩
    case measure=>simp[intOf];omega
  obtain rfl:k=m:=xaa;have q:=b2.o;rw[List.drop_eq_nil_of_le (by rw[HL.o];exact yad),fH]at q;have b3:V _:=aw.o _ _ _ _ JK C.o aH.o.size xaa;have o:V _:=q;obtain⟨a,bR,t⟩:=WB.form C.o;generalize st.reverse.length=nn at t;have f:=pL JK st;generalize iw _ _=j at b3 f o;clear q b2;subst t;go_upto_region 10 with (go_at_call 90;refine yai b3.o ?_;rintro e af ⟨bd,rfl,y,i⟩);have aJ:V _:=y;have bN:V _:=vw aH.o i;clear y i b3 C aH;obtain⟨a2,B,a9⟩:=WB.form aJ.o;cases j with
  |nil=>
   rw[show(([]:List _).reverse).length=0 from rfl]at a9;subst a9;have aa:V ((-1:Int)=E):=by have h:=o.o;rw[hK rfl]at h;exact h
   go_wp2_with fail;go_ret;exact⟨congrArg (λz=>Ending.returned (.int _ z)) aa.o,bN.o⟩
  |cons p r=>
   rw[show((p::r).reverse).length=r.length+1 by simp]at a9;subst a9;have aa:V (n=E):=by have h:=o.o;rw[hJ xac]at h;exact h
   have R:r.length+1<=100000:=by simp at f;omega
   have bz:(0:Int)<(r.length:Nat)+1:=xaa;clear f;go_wp2_with fail;go_ret;exact⟨congrArg (λz=>Ending.returned (.int _ z)) aa.o,bN.o⟩
end
section
variable {n k:Nat}{ts:List Tok}
def hdS:List Tok->List UInt8
 |[]=>JK
 |t::_=>t.sym
theorem iT{n p r}(h:jR p=true):∀ts:List Tok,fH n ts (p::r)=fH n ts (gD p (hdS ts)++r)
 |[]=>by rw[fH,fH,i8 h];rfl
 |t::ts=>by rw[fH,fH,i8 h];rfl
theorem eV{n s r}(h:jR s=false):∀{ts:List Tok},fH n ts (s::r)=-1->∃t us,ts=t::us/\t.sym=s/\fH n us r=-1
 |[],S=>by
  grind [fH,me]
 |t::us,S=>by
  grind [fH,me]
def Dp (n:Nat)(p:List UInt8)(l:Nat)(ts:List Tok):Prop:=∀r,fH n ts (p::r)=-1->∃e us ws,ts=us++ws/\Pr l [e] us/\fH n ws r=-1
def TkM (n:Nat)(p:List UInt8)(l:Nat)(ts:List Tok):Prop:=∀r a ls,Pr l [a] ls->fH n ts (p::r)=-1->∃e us ws,ts=us++ws/\Pr l [e] (ls++us)/\fH n ws r=-1
def Pa (n:Nat)(ts:List Tok):Prop:=∀r es ls,Pr 3 es ls->fH n ts (io::r)=-1->∃es' us ws,ts=us++ws/\Pr 3 es' (ls++us)/\fH n ws r=-1
structure Gr (n k:Nat):Prop where
 u:∀ts,ts.length<k->Dp n lN 0 ts
 mu:∀ts,ts.length<k->TkM n fW 1 ts
 t:∀ts,ts.length<k->Dp n kG 1 ts
 mt:∀ts,ts.length<k->TkM n f8 2 ts
 e:∀ts,ts.length<k->Dp n gU 2 ts
 ma:∀ts,ts.length<k->Pa n ts
theorem LM(g:Gr n k)(ts)(O:ts.length<k+1):TkM n fW 1 ts:=by
 intro r a h ah S;rw[iT xab]at S;by_cases c:hdS ts=[42]\/hdS ts=[47]
 ·have a5:gD fW (hdS ts)=[hdS ts,lN,fW]:=by
   rcases c with c|c<;>rw[c]<;>rfl
  rw[a5]at S;obtain⟨o,us,rfl,av,S⟩:=eV (by rcases c with c|c<;>rw[c]<;>decide) S;rw[<-av]at c;obtain⟨b,f,F,rfl,R,S⟩:=g.u us (by simp at O;omega) _ S;obtain⟨e,p,q,rfl,h3,S⟩:=g.mu F (by simp at O;omega) r (.bin o a b) (h++o::f) (.mul ah c R) S;exact⟨e,o::(f++p),q,by simp,by simpa using h3,S⟩
 have a5:gD fW (hdS ts)=[]:=by
  unfold gD;rw[hJ xab,hJ xab,hJ xab,hJ xab,hJ xab,hJ xab,hK rfl,hJ c]
 rw[a5]at S;exact⟨a,[],ts,rfl,by simpa using ah,S⟩
theorem tT(g:Gr n k)(O:ts.length<k+1){x aa}(S:fH n ts (x::[40]::gU::aa)=-1)(au:jR x=false):∃y l e us F,ts=y::l::(us++F)/\y.sym=x/\l.sym=[40]/\Pr 2 [e] us/\fH n F aa=-1/\F.length<k:=by
 obtain⟨y,us,rfl,ae,S⟩:=eV au S;obtain⟨l,us,rfl,ah,S⟩:=eV xab S;obtain⟨e,f,F,rfl,R,S⟩:=g.e _ (by grind) _ S;grind
theorem Pb(g:Gr n k)(ts)(O:ts.length<k+1):Dp n lN 0 ts:=by
 intro r S;rw[iT xab,tS]at S;generalize hdS _=s at S;by_cases h:s∈UL
 ·simp only[UL,List.mem_cons,List.not_mem_nil,or_false]at h;rcases h with rfl|rfl|rfl|rfl|rfl|rfl|rfl|rfl|rfl|rfl|rfl|rfl|rfl|rfl
  ·obtain⟨o,us,rfl,av,S⟩:=eV xab S;obtain⟨e,f,F,rfl,R,S⟩:=g.u _ (by grind) _ S;exact⟨_,_,_,rfl,.neg av R,S⟩
  ·obtain⟨t,us,rfl,ht,S⟩:=eV xab S;have S:fH n _ (qz::r)=-1:=S;rw[iT xab]at S;by_cases c:hdS us=[40]
   ·rw[c]at S;obtain⟨l,f,rfl,ah,S⟩:=eV xab S;have S:fH n _ (nJ::[41]::r)=-1:=S;rw[iT xab]at S;by_cases c2:hdS f=[41]
    ·rw[c2]at S;obtain⟨j,p,rfl,ay,S⟩:=eV xab S;exact⟨_,_,_,rfl,.call0 ht ah ay,S⟩
    rw[show gD nJ _=[gU,io] by simp[gD,c2,iN,lD,gN,gU,f8,kG,fW,qz,nJ]]at S;obtain⟨e,p,F,rfl,R,S⟩:=g.e _ (by grind) _ S;obtain⟨es,g3,q,rfl,h3,S⟩:=g.ma _ (by grind) _ _ _ (.arg1 R) S;obtain⟨j,G,rfl,ay,S⟩:=eV xab S;exact⟨_,_,_,by simp,.call ht ah h3 ay,S⟩
   rw[show gD qz _=[] by simp[gD,c,iN,lD,gN,gU,f8,kG,fW,qz]]at S;exact⟨_,_,_,rfl,.name ht,S⟩
  ·obtain⟨l,us,rfl,ah,S⟩:=eV xab S;obtain⟨e,f,F,rfl,R,S⟩:=g.e _ (by grind) _ S;obtain⟨j,p,rfl,ay,S⟩:=eV xab S;exact⟨_,_,_,by simp,.par ah R ay,S⟩
  iterate 2
   ·obtain⟨y,l,e,us,F,rfl,B,ah,R,S,bY⟩:=tT g O S xab
    obtain⟨j,u,rfl,ay,S⟩:=eV xab S
    exact⟨_,y::l::(us++[j]),_,by simp,.key1 (by first|exact .inl B|exact .inr B) ah R ay,S⟩
  iterate 2
   ·obtain⟨y,l,e,us,F,rfl,B,ah,R,S,bY⟩:=tT g O S xab
    obtain⟨c,v,rfl,ai,S⟩:=eV xab S
    obtain⟨a9,al,af,rfl,h3,S⟩:=g.e _ (by grind) _ S
    obtain⟨j,u,rfl,ay,S⟩:=eV xab S
    exact⟨_,y::l::(us++c::(al++[j])),_,by simp,.key2 (by first|exact .inl B|exact .inr B) ah R ai h3 ay,S⟩
  ·obtain⟨y,l,e,us,F,rfl,B,ah,R,S,bY⟩:=tT g O S xab;obtain⟨c,v,rfl,ai,S⟩:=eV xab S;obtain⟨a9,al,af,rfl,h3,S⟩:=g.e _ (by grind) _ S;obtain⟨c2,w,rfl,Y,S⟩:=eV xab S;obtain⟨ak,ar,aX,rfl,a8,S⟩:=g.e _ (by grind) _ S;obtain⟨j,u,rfl,ay,S⟩:=eV xab S;exact⟨_,_,_,by simp,.key3 B ah R ai h3 Y a8 ay,S⟩
  iterate 2
   ·obtain⟨y,l,e,us,F,rfl,B,ah,R,S,bY⟩:=tT g O S xab
    obtain⟨c,v,rfl,ai,S⟩:=eV xab S
    obtain⟨m,z,rfl,az,S⟩:=eV xab S
    obtain⟨j,u,rfl,ay,S⟩:=eV xab S
    exact⟨_,y::l::(us++[c,m,j]),_,by simp,.keyN (by first|exact .inl B|exact .inr B) ah R ai az ay,S⟩
  ·obtain⟨y,l,e,us,F,rfl,B,ah,R,S,bY⟩:=tT g O S xab;obtain⟨c,v,rfl,ai,S⟩:=eV xab S;obtain⟨i,H,rfl,hi,S⟩:=eV xab S;obtain⟨c2,w,rfl,Y,S⟩:=eV xab S;obtain⟨m,z,rfl,az,S⟩:=eV xab S;obtain⟨j,u,rfl,ay,S⟩:=eV xab S;exact⟨_,_,_,by simp,.put B ah R ai hi Y az ay,S⟩
  ·obtain⟨y,l,e,us,F,rfl,B,ah,R,S,bY⟩:=tT g O S xab;obtain⟨c,v,rfl,ai,S⟩:=eV xab S;obtain⟨x,C,rfl,au,S⟩:=eV xab S;obtain⟨j,u,rfl,ay,S⟩:=eV xab S;exact⟨_,_,_,by simp,.grad B ah R ai au ay,S⟩
  ·obtain⟨y,l,e,us,F,rfl,B,ah,R,S,bY⟩:=tT g O S xab;obtain⟨c,v,rfl,ai,S⟩:=eV xab S;obtain⟨x,C,rfl,au,S⟩:=eV xab S;obtain⟨c2,w,rfl,Y,S⟩:=eV xab S;obtain⟨ak,ar,aX,rfl,a8,S⟩:=g.e _ (by grind) _ S;obtain⟨j,u,rfl,ay,S⟩:=eV xab S;exact⟨_,_,_,by simp,.jvp B ah R ai au Y a8 ay,S⟩
  obtain⟨t,us,rfl,ht,S⟩:=eV xab S;exact⟨_,_,_,rfl,.num (.inr ht),S⟩
 rw[xu h]at S;obtain⟨t,us,rfl,ht,S⟩:=eV xab S;exact⟨_,_,_,rfl,.num (.inl ht),S⟩
theorem Pc(g:Gr n k)(ts)(O:ts.length<k+1):Dp n kG 1 ts:=by
 intro r S;rw[iT xab,vr]at S;obtain⟨a,us,F,rfl,B,S⟩:=Pb g _ O _ S;obtain⟨e,p,q,rfl,R,S⟩:=LM g _ (by grind) r a _ (.up01 B) S;grind
theorem LN(g:Gr n k)(ts)(O:ts.length<k+1):TkM n f8 2 ts:=by
 intro r a h ah S;rw[iT xab]at S;by_cases c:hdS ts=[43]\/hdS ts=[45]
 ·have a5:gD f8 (hdS ts)=[hdS ts,kG,f8]:=by
   rcases c with c|c<;>rw[c]<;>rfl
  rw[a5]at S;obtain⟨o,us,rfl,av,S⟩:=eV (by rcases c with c|c<;>rw[c]<;>decide) S;rw[<-av]at c;obtain⟨b,f,F,rfl,R,S⟩:=g.t us (by simp at O;omega) _ S;obtain⟨e,p,q,rfl,h3,S⟩:=g.mt F (by simp at O;omega) r (.bin o a b) (h++o::f) (.add ah c R) S;exact⟨e,o::(f++p),q,by simp,by simpa using h3,S⟩
 have a5:gD f8 (hdS ts)=[]:=by
  unfold gD;rw[hJ xab,hJ xab,hJ xab,hJ xab,hK rfl,hJ c]
 rw[a5]at S;exact⟨a,[],ts,rfl,by simpa using ah,S⟩
theorem P2(g:Gr n k)(ts)(O:ts.length<k+1):Dp n gU 2 ts:=by
 intro r S;rw[iT xab,vu]at S;obtain⟨a,us,F,rfl,B,S⟩:=Pc g _ O _ S;obtain⟨e,p,q,rfl,R,S⟩:=LN g _ (by grind) r a _ (.up12 B) S;grind
theorem Pd(g:Gr n k)(ts)(O:ts.length<k+1):Pa n ts:=by
 intro r es h ah S;rw[iT xab]at S;by_cases c:hdS ts=[44]
 ·have a5:gD io (hdS ts)=[[44],gU,io]:=by rw[c];rfl
  rw[a5]at S;obtain⟨o,us,rfl,av,S⟩:=eV xab S;obtain⟨b,f,F,rfl,R,S⟩:=g.e us (by simp at O;omega) _ S;obtain⟨e,p,q,rfl,h3,S⟩:=g.ma F (by simp at O;omega) r _ (h++o::f) (.argM ah av R) S;exact⟨e,o::(f++p),q,by simp,by simpa using h3,S⟩
 have a5:gD io (hdS ts)=[]:=by
  unfold gD;rw[hJ xab,hJ xab,hJ xab,hJ xab,hJ xab,hJ xab,hJ xab,hJ xab,hJ xab,hK rfl,hJ c]
 rw[a5]at S;exact⟨es,[],ts,rfl,by simpa using ah,S⟩
theorem pM(n):∀k,Gr n k
 |0=>⟨λ_ h=>by omega,λ_ h=>by omega,λ_ h=>by omega,λ_ h=>by omega,λ_ h=>by omega,λ_ h=>by omega⟩
 |k+1=>⟨Pb (pM n k),LM (pM n k),Pc (pM n k),LN (pM n k),P2 (pM n k),Pd (pM n k)⟩
theorem qF{r}(h:fH n ts (gU::r)=-1):∃e us F,ts=us++F/\Pr 2 [e] us/\fH n F r=-1:=(pM n (ts.length+1)).e ts yae r h
