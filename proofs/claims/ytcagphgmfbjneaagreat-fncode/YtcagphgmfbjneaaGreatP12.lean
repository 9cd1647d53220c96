import Derived.Test.YtcagphgmfbjneaaGreatP11
namespace Go.Proofs.Z
open Tryz Go.RowKit Flt
set_option maxRecDepth 1000000
set_option maxHeartbeats 0
section
attribute[local go_sem] eE eD eC
variable{w B:World}{ts:List Tok}{ss:List (List UInt8)}
def RlT(w:World)(ss:List (List UInt8))(e:Ending)(w':World):Prop:=(ss=[]/\e=.returned (.slice none 0 0)/\w'=w)\/(ss≠[]/\e=.returned (.slice (some ⟨w.heap.size,0,none⟩) ss.length ss.length)/\w'=w.alloc (.cells (ss.map λl=>eK l).toArray 9))
theorem PV(l h):(((⟨l.toArray⟩:ByteArray)[0]'h).toNat:Int)=bt l 0:=by
 cases l with
 |nil=>simp[ByteArray.size]at h
 |cons a r=>rfl
theorem Gm(l w):Calls prog 121 #[eK l] w λe B=>e=.returned (.bool (jE l))/\B=w:=by
 have aw:=fO l;have bp:=PV l;unfold jE;generalize bt l 0=x at bp⊢;cases aS:decide (1<l.length)
 ·have t:¬((1:Int)<l.length):=by simp at aS;omega
  go_enter func121,ntmps121;go_wp2;go_ret;exact⟨rfl,rfl⟩
 have ak:1<l.length:=by simpa using aS
 have F:0<l.length:=xaa;have t:(1:Int)<l.length:=xaa;cases a9:decide (65<=x)<;>(go_enter func121,ntmps121;go_wp2;go_ret;exact⟨rfl,rfl⟩)
theorem J4(s w):Calls prog 132 #[eK s] w (RlT w (kP s)):=by
 by_cases h:s∈UL
 ·simp only[UL,List.mem_cons,List.not_mem_nil,or_false]at h;rcases h with rfl|rfl|rfl|rfl|rfl|rfl|rfl|rfl|rfl|rfl|rfl|rfl|rfl|rfl<;>(go_enter func132,ntmps132;go_wp2;go_ret;exact .inr ⟨by decide,rfl,rfl⟩)
 rw[xA h];simp only[UL,List.mem_cons,List.not_mem_nil,or_false,not_or,<-beq_eq_false_iff_ne]at h;obtain⟨_,_,_,_,_,_,_,_,_,_,_,_,_,_⟩:=h;go_enter func132,ntmps132;go_wp2;go_ret;exact .inr ⟨by decide,rfl,rfl⟩
theorem NH(p s w):Calls prog 122 #[eK p,eK s] w (RlT w (fY p s)):=by
 by_cases h:p∈PQ
 ·have ad:=@FI p s h;simp only[PQ,List.mem_cons,List.not_mem_nil,or_false]at h;by_cases aw:s∈RL
  ·clear ad;simp only[RL,List.mem_cons,List.not_mem_nil,or_false]at aw;rcases h with rfl|rfl|rfl|rfl|rfl|rfl|rfl|rfl|rfl|rfl<;>rcases aw with rfl|rfl|rfl|rfl|rfl|rfl|rfl|rfl|rfl|rfl|rfl|rfl|rfl<;>(go_enter func122,ntmps122;go_wp2;go_ret;first|exact .inl ⟨rfl,rfl,rfl⟩|exact .inr ⟨by decide,rfl,rfl⟩)
  rw[ad aw];clear ad;simp only[RL,List.mem_cons,List.not_mem_nil,or_false,not_or,<-beq_eq_false_iff_ne]at aw;obtain⟨_,_,_,_,_,_,_,_,_,_,_,_,_⟩:=aw;rcases h with rfl|rfl|rfl|rfl|rfl|rfl|rfl|rfl|rfl|rfl<;>(go_enter func122,ntmps122;go_wp2;go_ret;first|exact .inl ⟨rfl,rfl,rfl⟩|exact .inr ⟨by decide,rfl,rfl⟩)
 rw[FH s h];simp only[PQ,List.mem_cons,List.not_mem_nil,or_false,not_or,<-beq_eq_false_iff_ne,im,lw,gq,gI,fK,jY,fE,qx,nW,gQ]at h;obtain⟨_,_,_,_,_,_,_,_,_,_⟩:=h;have HN:V _:=J4 s w;generalize kP s=us at HN;go_enter func122,ntmps122;go_wp2_with fail;go_at_call 132
 refine yaj HN.o ?_;rintro e aH (⟨rfl,rfl,rfl⟩|⟨F,rfl,rfl⟩)
 ·go_wp2;go_ret;exact .inl ⟨rfl,rfl,rfl⟩
 have aW:V (us≠[]):=F;clear F;go_wp2;go_ret;exact .inr ⟨aW.o,rfl,rfl⟩
theorem WB.pop{W I a n cap x}(h:WB W I (.slice a n cap) (ss++[x])):WB W I (.slice a ss.length cap) ss:=by
 unfold WB at*;have ai:(ss++[x]).length=ss.length+1:=by simp
 rw[ai]at h;refine⟨by simp,?_⟩;rcases h.2 with⟨_,c⟩|⟨g,c,ad,e,U,aV,aa,b1,ct,bX⟩
 ·omega
 cases e;refine .inr ⟨g,_,_,rfl,U,aV,by omega,b1,ct,?_⟩;have:ad.toList.take (ss.length*1)=(ad.toList.take ((ss.length+1)*1)).take ss.length:=by grind
 simp_all
theorem NJ(st):st.length<=wts st:=by
 induction st<;>grind[Be,wts]
theorem PW(s):wt s<=7:=by
 grind[wt]
theorem NK(st):wts st<=7*st.length:=by
 induction st<;>grind[wts,PW]
theorem PX(st):mu st<=7*st.length+1:=by
 grind[NK,mu]
theorem uo{s st}(h:Bd st=false):gY s st=st:=by
 cases st with
 |nil=>exact nd s
 |cons p r=>exact mb h
theorem uq(s):fY lH s=kP s:=rfl
theorem vQ(s):fY jY s=[lH,fE]:=rfl
theorem vR(s):fY gI s=[jY,fK]:=rfl
theorem xK(s r):gY s (lH::r)=kP s++r:=by
 rw[iJ xab,uq,uo (vM s r)]
theorem sh(s r):gY s (jY::r)=kP s++fE::r:=by
 rw[iJ xab,vQ];exact xK s _
theorem si(s r):gY s (gI::r)=kP s++fE::fK::r:=by
 rw[iJ xab,vR];exact sh s _
theorem pS(s st):(gY s st).length<=st.length+10:=by
 match st with
 |[]=>rw[nd];simp
 |p::r=>
  cases h:jE p
  ·rw[mb h];omega
  have a6:=(vN s).2;rcases tU p s r with c|c|⟨e,c⟩|⟨e,c⟩|⟨e,c⟩
  ·rw[iJ h,c,List.nil_append];have:=pS s r;rw[yaq];omega
  ·rw[iJ h,uo c,yal,yaq];have:=zh p s;omega
  ·rw[e,si,yal];simp only[yaq];omega
  ·rw[e,sh,yal];simp only[yaq];omega
  rw[iJ h,c];show(gY s (gI::gQ::r)).length<=_;rw[si,yal];simp only[yaq];omega
termination_by st.length
theorem NL(w:World)(l):WC (w.alloc (.cells #[eK l] 9)) ⟨w.heap.size,0,none⟩ [l]:=by
 intro j x e;grind[iM,yav]
theorem WB.form{W I v}(f:WB W I v ss):∃a cap,v=.slice a ss.length cap:=by
 rcases f.2 with⟨e,c⟩|⟨g,cap,ad,e,_⟩<;>grind
theorem RlT.uni{e}(h:RlT w ss e B):∃aI af m,e=.returned (.slice aI m m)/\ss.length=m/\(0<m->aI=some ⟨af,0,none⟩)/\af=w.heap.size/\(0<m->af<B.heap.size)/\(∀q,q<m->B.cell? ⟨af,q,none⟩=some (eK (ss.getD q [])))/\Kept 0 0 w B:=by
 rcases h with⟨rfl,rfl,rfl⟩|⟨_,rfl,rfl⟩
 ·grind[Kept.refl]
 refine⟨_,_,_,rfl,rfl,λ_=>rfl,rfl,λ_=>by simp,λq aA=>?_,eA 0 0 w _⟩;simp_all
theorem Gn(w I v st s)(f:WB w I v st.reverse)(a7:I<=w.heap.size)(ag:st.length<=60000):
  Calls prog 109 #[v,eK s] w λe B=>∃v',e=.returned v'/\WB B I v' (gY s st).reverse/\Chg (λb=>I<=b) w B:=by
 have aD:V _:=f;have ae:V _:=λp W=>NH p s W;have bZ:V _:=Gm;have T:V _:=a7;have Y:V (mu st<=420001):=by have:=PX st;show _<=_;omega
 obtain⟨E,bU⟩:∃E,E=gY s st:=⟨_,rfl⟩
 rw[<-bU];have HE:V _:=bU.symm;clear f a7 bU;go_enter func109,ntmps109;go_wp2_with fail;go_loopg [0] (mu st) (λm u W=>∃N,mu N=m/\V (m<=420001)/\N.length<=420010/\V (WB W I u N.reverse)/\V (Chg (λb=>I<=b) w W)/\V (gY s N=E))
 case atStart=>exact⟨_,rfl,Y,by omega,aD,(Kept.refl 0 0 w).chg,HE⟩
 case round=>
  obtain⟨N,(t:V _),ao,ai,K,aj,a2⟩:=hrel;cases N with
  |nil=>
   obtain⟨a,cap,rfl⟩:=WB.form K.o;have R:V _:=(nd s).symm.trans a2.o;rw[show(([]:List _).reverse).length=0 from rfl];go_wp2_with fail;go_ret;exact⟨_,rfl,i2 R.o K.o,aj.o⟩
  |cons p r=>
   obtain⟨g,cap,a6,aw,bC,al,aF⟩:=WB.at_ K.o xac;have aV:((p::r).reverse).length=r.length+1:=by simp
   rw[aV]at a6 aF;subst a6
   have c1:wr.cell? ⟨g,r.length,none⟩=some (eK p):=by
    have:=al r.length p xac;rwa [iM,Nat.zero_add]at this
   have k:V _:=bZ.o p wr;have cz:r.length+1<=420010:=by simpa using ai
   clear al aV ai;cases aQ:jE p
   ·have R:V _:=(mb aQ).symm.trans a2.o;rw[aQ]at k;clear aQ;go_wp2_with (go_at_call 121;refine yaj k.o ?_;rintro e aH ⟨rfl,X⟩;obtain rfl:=X.symm);go_ret;exact⟨_,rfl,i2 R.o K.o,aj.o⟩
   have R:V _:=(iJ aQ).symm.trans a2.o;have z:V (mu (fY p s++r)<gk):=by rw[<-t.o];exact Cp p s r aQ
   have n:V (r.length+(fY p s).length<=420010):=by
    have F:mu (p::r)=wt p+wts r+1:=by unfold mu Bd;rw[h7 aQ];rfl
    have h2:=NJ r;have h3:=zh p s;have h4:=t.o;have bK:=ao.o;have b3:=Be p;show _<=_;omega
   rw[aQ]at k;have C:V _:=ae.o p wr;generalize fY p s=d at z n C R
   have y:V (WB wr I (h0 g r.length cap) r.reverse):=by
    have h:=WB.pop (by have:=K.o;rw[List.reverse_cons]at this;exact this);rw[List.length_reverse]at h;exact h
   clear aQ K a2 t
   go_upto_region 3 with (first
    |(go_at_call 121;refine yaj k.o ?_;rintro e aH ⟨rfl,X⟩;obtain rfl:=X.symm)
    |(go_at_call 122;refine yaj C.o ?_;intro e am l;obtain⟨aI,af,m,rfl,O,P,aq,Q,S,av⟩:=RlT.uni l))
   have ad:V _:=WB.keep y.o av;have bO:V _:=Chg.andThen aj.o av.chg;have G:V ((0<m->af<am.heap.size)/\∀q,q<m->am.cell? _=some _):=⟨Q,S⟩
   have bb:V _:=O;have U:g≠af:=xaa;have b2:=av.size;have ab:V (I<=am.heap.size):=by show _<=_;omega
   have aa:V _:=P;rw[bb.o]at n;have ar:=n.o;clear l O P aq Q S av c1 aj y k C;go_upto_region 5 with fail;go_loopw [0,6] (λu bX W=>∃j:Nat,j<=m/\bX=h1 ((j:Int)-1)/\V (WB W I u (d.drop j++r).reverse)/\V (Chg (λb=>I<=b) w W)/\V ((0<m->af<W.heap.size)/\(∀q,q<m->W.cell? ⟨af,q,none⟩=some (eK (d.getD q [])))/\(∀h,u.ownBlock=some h->h≠af)/\I<=W.heap.size)) (λ_ bX _=>(intOf bX+1).toNat)
   case atStart=>
    refine⟨m,yad,rfl,?_,bO,⟨G.o.1,G.o.2,λh bx=>?_,ab.o⟩⟩
    ·rw[List.drop_eq_nil_of_le (by rw[bb.o];exact yad),List.nil_append];exact ad
    simp[Value.ownBlock]at bx;omega
   case round=>
    obtain⟨j,hj,rfl,K,aj,be⟩:=hrel;obtain⟨a,b7,aK⟩:=WB.form K.o;subst aK;by_cases aM:j=0
    ·subst aM;rw[List.drop_zero]at K;go_wp2_with fail;go_roundg (mu (d++r))
     case measure=>exact z.o
     case rel=>exact⟨_,rfl,(by show _<=_;have:=z.o;have:=ao.o;omega),by rw[yal,bb.o];omega,K,aj,R⟩
    obtain⟨q,rfl⟩:∃q,j=q+1:=⟨j-1,by omega⟩
    have aA:q<m:=xaa;obtain rfl:=aa.o xaa;have c2:=be.o.2.1 q aA
    have HD:V (d.drop q=d.getD q []::d.drop (q+1)):=by
     show _=_;rw[List.drop_eq_getElem_cons (i1 bb.o aA),yai,yam (i1 bb.o aA)];rfl
    have aV:(d.drop (q+1)++r).reverse.length<=420010:=by
     rw[List.length_reverse,yal,List.length_drop,bb.o];omega
    have cx:V _:=aV;generalize d.getD q _=x at c2 HD;generalize H:(d.drop _++r).reverse=xs at K aV cx be;have ap:V _:=H;generalize bH:xs.length=nn at*;have aN:V _:=bH;clear H bH;go_wp2_with (first|(at_builtin;refine um _ rfl _ _ rfl I _ _ rfl (WB.keep K.o (eA 0 0 _ _)) _ 1 1 _ rfl rfl (NL _ x) xab ?c2 ?c3 ?_)|fail)
    case c2=>have:=cx.o;have:=aN.o;omega
    case c3=>have:=be.o.2.2.2;simp;omega
    intro g9 cap9 n9 bn an b9 bF ch;have bj:=eA 0 0 wr (.cells #[eK x] 9)
    have R1:V (WB bn I (h0 g9 n9 cap9) (d.drop q++r).reverse):=by
     show WB _ _ _ _;rw[HD.o,List.cons_append,List.reverse_cons,ap.o];exact b9
    have ah:∀b,(Value.slice a _ _).ownBlock=some b->_:=λb hb=>(WB.blk K.o hb).1;have R2:V _:=Chg.andThen (Chg.andThen aj.o bj.chg) ⟨bF.os,bF.tape,bF.output,bF.size,λi hi ag=>bF.block i hi (λc=>ag (ah i c))⟩
    have R3:V ((0<m->af<bn.heap.size)/\(∀q,q<m->bn.cell? ⟨af,q,none⟩=some (eK (d.getD q [])))/\(∀h,(h0 g9 n9 cap9).ownBlock=some h->h≠af)/\I<=bn.heap.size):=by
     obtain⟨a1,J,a3,a4⟩:=be.o;have ak:=a1 xaa;have cW:=bF.size;have bJ:(wr.alloc (.cells #[eK x] 9)).heap.size=wr.heap.size+1:=by simp
     refine⟨λ_=>by omega,λq aA=>?_,λh bx=>?_,by omega⟩
     ·rw[bF.cell (by show af<_;omega) (λc=>a3 _ c rfl),bj.cell ak xaa];exact J q aA
     simp[Value.ownBlock]at bx;subst bx;rcases ch with c|c
     ·exact a3 _ c
     omega
    clear b9 bF ch bj ah an;go_wp2_with fail;go_roundw
    case rel=>exact⟨q,by omega,by go_num,R1,R2,R3⟩
    case measure=>simp[intOf]
theorem TkA.keep{g off n}(h:TkA w g off n ts)(k:Kept 0 0 w B):TkA B g off n ts:=
 ⟨h.len,yak h.lt k.size,λj hj=>(k.cell (p:=⟨g,off+j*3,none⟩) h.lt xaa).trans (h.c0 j hj),λj hj=>(k.cell (p:=⟨g,off+j*3+1,none⟩) h.lt xaa).trans (h.c1 j hj),λj hj=>(k.cell (p:=⟨g,off+j*3+2,none⟩) h.lt xaa).trans (h.c2 j hj)⟩
theorem WB.lit1(w:World)(l):WB (w.alloc (.cells #[eK l] 9)) w.heap.size (h0 w.heap.size 1 1) [l]:=
 World.ownsRow_lit (base:=w.heap.size) (e:=9) (size:=1) w #[eK l] 1 yad (by unfold maxLen;omega) rfl
theorem Gp{k}(h:k<ts.length):ts.drop k=ts.getD k ih::ts.drop (k+1):=by
 simp_all
theorem vS{W H}(k:Kept 0 0 w W)(c:Chg (λb=>w.heap.size<=b) W H):Kept 0 0 w H:=Chg.kept k c (λ_ h=>h)
theorem xL(w aL)(m cap n:Nat)(ts)(ai:ts.length=m)(ao:m<=5000)(bm:0<m->∃g off,aL=some ⟨g,off,none⟩/\TkA w g off m ts):
  Calls prog 97 #[.slice aL m cap,h1 n] w λe B=>e=.returned (h1 (ft n ts [im]))/\Kept 0 0 w B:=by
 have au:V _:=Gn;have bI:V _:=bm;have HL:V _:=ai;have bL:V (WB _ _ _ [im].reverse):=WB.lit1 w _;obtain⟨E,bU⟩:∃E,E=ft n ts [im]:=⟨_,rfl⟩
 rw[<-bU];have HE:V (ft n (ts.drop 0) _=E):=bU.symm;clear bU bm ai;go_enter func97,ntmps97;go_wp2_with fail;change Code.wp _ _ _ _ (w.alloc (.cells #[eK im] 9));have bZ:V _:=eA 0 0 w (.cells #[eK im] 9);generalize w.alloc _=aH at bL bZ⊢;go_loopw [5,6] (λv S W=>∃(k:Nat) (st:List (List UInt8)),k<=m/\S=h1 k/\st.length<=1+10*k/\V (WB W w.heap.size v st.reverse)/\V (Kept 0 0 w W)/\V (ft n (ts.drop k) st=E)) (λ_ S _=>m-(intOf S).toNat)
 case atStart=>grind
 case round=>
  obtain⟨k,st,O,rfl,cM,K,aG,bU⟩:=hrel;by_cases hlt:k<m
  ·obtain⟨g,off,rfl,be⟩:=bI.o xaa;have c0:=(be.keep aG.o).c0 k hlt;have x:V _:=be;have l:=bU.o;rw[Gp (i1 HL.o hlt)]at l;have bT:V _:=au.o _ _ _ _ (ts.getD k ih).sym K.o aG.o.size xaa;have b2:V (∀W,Kept 0 0 w W->W.cell? _=some _/\W.cell? _=some _):=λW aj=>⟨(be.keep aj).c0 k hlt,(be.keep aj).c1 k hlt⟩
   generalize ts.getD k _=C at c0 l bT b2;have a6:V _:=l;obtain⟨a,b7,aK⟩:=WB.form K.o;generalize st.reverse.length=nn at aK;have f:=pS C.sym st;generalize hst:gY _ _=u at bT f;have cw:V _:=hst;clear hst l be bU x;subst aK;go_upto_region 6 with (go_at_call 109;refine yaj bT.o ?_;rintro e am ⟨bb,rfl,b,t⟩);have aC:V _:=b;have bQ:V _:=vS aG.o t;obtain⟨c1,c2⟩:=b2.o _ bQ.o;clear b t c0 bT K aG;cases u with
   |nil=>
    obtain⟨J,j,bg⟩:=WB.form aC.o;rw[show(([]:List _).reverse).length=0 from rfl]at bg;subst bg
    have R:V (C.pos=E):=by
     have h:=a6.o;rw[ft,cw.o]at h;exact h
    go_quiet (fail)
    have aO:V _:=Kept.trans bQ.o (eH 0 0 _ nq);obtain⟨aM,bi⟩:=b2.o _ aO.o;generalize am.drewN _=aU at aO aM bi⊢;clear c1 c2;go_wp2_with fail;go_ret;exact⟨congrArg (λz=>Ending.returned (.int _ z)) R.o,aO.o⟩
   |cons p r=>
    obtain⟨a0,j,bg,aw,bC,al,aF⟩:=WB.at_ aC.o xac;have aV:((p::r).reverse).length=r.length+1:=by simp
    rw[aV]at bg aF;subst bg
    have c3:am.cell? ⟨a0,r.length,none⟩=some (eK p):=by
     have:=al r.length p xac;rwa [iM,Nat.zero_add]at this
    have H:r.length+1<=100000:=by simp at f;omega
    have F:r.length<=10*k+10:=by simp at f;omega
    have bP:((r.length:Int)+1==0)=false:=by simp;omega
    have aR:IntKind.i64.wrap ((r.length:Nat)+1-1)=(r.length:Nat):=by rw[IntKind.wrap_i64];omega
    have bd:(0:Int)<=(r.length:Nat):=xaa;have bu:(r.length:Int)<(r.length:Nat)+1:=xaa;cases aA:(p==C.sym)
    ·have bc:p≠C.sym:=λc=>by rw[c]at aA;simp at aA
     have R:V (C.pos=E):=by
      have h:=a6.o;rw[ft,cw.o]at h;simp only[h6 bc]at h;exact h
     have bp:(p !=C.sym)=true:=by unfold bne;rw[aA];rfl
     clear al aV f bc;go_quiet (fail)
     have aO:V _:=Kept.trans bQ.o (eH 0 0 _ nq);obtain⟨aM,bi⟩:=b2.o _ aO.o;generalize am.drewN _=aU at aO aM bi⊢;clear c1 c2 c3;go_wp2_with fail;go_ret;exact⟨congrArg (λz=>Ending.returned (.int _ z)) R.o,aO.o⟩
    have Y:p=C.sym:=by simpa using aA
    have R:V (ft n (ts.drop (k+1)) r=E):=by
     have h:=a6.o;rw[ft,cw.o]at h;simp only[h7 Y]at h;exact h
    have y:V (WB am w.heap.size (h0 a0 r.length j) r.reverse):=by
     have h:=WB.pop (by have:=aC.o;rw[List.reverse_cons]at this;exact this);rw[List.length_reverse]at h;exact h
    have bp:(p !=C.sym)=false:=by unfold bne;rw[aA];rfl
    clear al aV f Y aC;go_quiet (fail)
    have aO:V _:=Kept.trans bQ.o (eH 0 0 _ nq);have d:V _:=WB.keep y.o (eH 0 0 _ nq);generalize am.drewN _=aU at aO d⊢;clear c1 c2 c3;go_wp2_with fail;go_roundw;exact⟨k+1,r,by omega,by go_num,by omega,d,aO,R⟩;simp[intOf];omega
  obtain rfl:k=m:=xaa;have l:=bU.o;rw[List.drop_eq_nil_of_le (by rw[HL.o];exact yad),ft]at l;have bT:V _:=au.o _ _ _ _ JP K.o aG.o.size xaa;have a6:V _:=l;obtain⟨a,b7,aK⟩:=WB.form K.o;generalize st.reverse.length=nn at aK;have f:=pS JP st;generalize gY _ _=u at bT f a6;clear l bU;subst aK;go_upto_region 10 with (go_at_call 109;refine yaj bT.o ?_;rintro e am ⟨bb,rfl,b,t⟩);have aC:V _:=b;have bQ:V _:=vS aG.o t;clear b t bT K aG;obtain⟨J,j,bg⟩:=WB.form aC.o;cases u with
  |nil=>
   rw[show(([]:List _).reverse).length=0 from rfl]at bg;subst bg;have R:V ((-1:Int)=E):=by have h:=a6.o;rw[h7 rfl]at h;exact h
   go_wp2_with fail;go_ret;exact⟨congrArg (λz=>Ending.returned (.int _ z)) R.o,bQ.o⟩
  |cons p r=>
   rw[show((p::r).reverse).length=r.length+1 by simp]at bg;subst bg;have R:V (n=E):=by have h:=a6.o;rw[h6 xac]at h;exact h
   have H:r.length+1<=100000:=by simp at f;omega
   have bu:(0:Int)<(r.length:Nat)+1:=xaa;clear f;go_wp2_with fail;go_ret;exact⟨congrArg (λz=>Ending.returned (.int _ z)) R.o,bQ.o⟩
end
section
variable{n k:Nat}{ts:List Tok}
def hdS:List Tok->List UInt8
 |[]=>JP
 |t::_=>t.sym
theorem iy{n p r}(h:jE p=true):∀ts:List Tok,ft n ts (p::r)=ft n ts (fY p (hdS ts)++r)
 |[]=>by rw[ft,ft,iJ h];rfl
 |t::ts=>by rw[ft,ft,iJ h];rfl
theorem eO{n s r}(h:jE s=false):∀{ts:List Tok},ft n ts (s::r)=-1->∃t us,ts=t::us/\t.sym=s/\ft n us r=-1
 |[],X=>by
  grind[ft,mb]
 |t::us,X=>by
  grind[ft,mb]
def DL(n:Nat)(p:List UInt8)(l:Nat)(ts:List Tok):Prop:=∀r,ft n ts (p::r)=-1->∃e us ws,ts=us++ws/\Pr l [e] us/\ft n ws r=-1
def TkM(n:Nat)(p:List UInt8)(l:Nat)(ts:List Tok):Prop:=∀r a ls,Pr l [a] ls->ft n ts (p::r)=-1->∃e us ws,ts=us++ws/\Pr l [e] (ls++us)/\ft n ws r=-1
def PY(n:Nat)(ts:List Tok):Prop:=∀r es ls,Pr 3 es ls->ft n ts (gQ::r)=-1->∃es' us ws,ts=us++ws/\Pr 3 es' (ls++us)/\ft n ws r=-1
structure Gr(n k:Nat):Prop where
 u:∀ts,ts.length<k->DL n lH 0 ts
 mu:∀ts,ts.length<k->TkM n fE 1 ts
 t:∀ts,ts.length<k->DL n jY 1 ts
 mt:∀ts,ts.length<k->TkM n fK 2 ts
 e:∀ts,ts.length<k->DL n gI 2 ts
 ma:∀ts,ts.length<k->PY n ts
theorem MT(g:Gr n k)(ts)(O:ts.length<k+1):TkM n fE 1 ts:=by
 intro r a af ai X;rw[iy xab]at X;by_cases c:hdS ts=[42]\/hdS ts=[47]
 ·have F:fY fE (hdS ts)=[hdS ts,lH,fE]:=by
   rcases c with c|c<;>rw[c]<;>rfl
  rw[F]at X;obtain⟨o,us,rfl,ho,X⟩:=eO (by rcases c with c|c<;>rw[c]<;>decide) X;rw[<-ho]at c;obtain⟨b,d,au,rfl,h2,X⟩:=g.u us (by simp at O;omega) _ X;obtain⟨e,G,f,rfl,h3,X⟩:=g.mu au (by simp at O;omega) r (.bin o a b) (af++o::d) (.mul ai c h2) X;exact⟨e,o::(d++G),f,by simp,by simpa using h3,X⟩
 have F:fY fE (hdS ts)=[]:=by
  unfold fY;rw[h6 xab,h6 xab,h6 xab,h6 xab,h6 xab,h6 xab,h7 rfl,h6 c]
 rw[F]at X;exact⟨a,[],ts,rfl,by simpa using ai,X⟩
theorem ur(g:Gr n k)(O:ts.length<k+1){x R}(X:ft n ts (x::[40]::gI::R)=-1)(ap:jE x=false):∃w l e us au,ts=w::l::(us++au)/\w.sym=x/\l.sym=[40]/\Pr 2 [e] us/\ft n au R=-1/\au.length<k:=by
 obtain⟨w,us,rfl,G,X⟩:=eO ap X;obtain⟨l,us,rfl,ai,X⟩:=eO xab X;obtain⟨e,d,au,rfl,h2,X⟩:=g.e _ (by grind) _ X;grind
theorem PZ(g:Gr n k)(ts)(O:ts.length<k+1):DL n lH 0 ts:=by
 intro r X;rw[iy xab,uq]at X;generalize hdS _=s at X;by_cases h:s∈UL
 ·simp only[UL,List.mem_cons,List.not_mem_nil,or_false]at h;rcases h with rfl|rfl|rfl|rfl|rfl|rfl|rfl|rfl|rfl|rfl|rfl|rfl|rfl|rfl
  ·obtain⟨o,us,rfl,ho,X⟩:=eO xab X;obtain⟨e,d,au,rfl,h2,X⟩:=g.u _ (by grind) _ X;exact⟨_,_,_,rfl,.neg ho h2,X⟩
  ·obtain⟨t,us,rfl,ht,X⟩:=eO xab X;have X:ft n _ (qx::r)=-1:=X;rw[iy xab]at X;by_cases c:hdS us=[40]
   ·rw[c]at X;obtain⟨l,d,rfl,ai,X⟩:=eO xab X;have X:ft n _ (nW::[41]::r)=-1:=X;rw[iy xab]at X;by_cases c2:hdS d=[41]
    ·rw[c2]at X;obtain⟨a,G,rfl,aF,X⟩:=eO xab X;exact⟨_,_,_,rfl,.call0 ht ai aF,X⟩
    rw[show fY nW _=[gI,gQ] by simp[fY,c2,im,lw,gq,gI,fK,jY,fE,qx,nW]]at X;obtain⟨e,G,au,rfl,h2,X⟩:=g.e _ (by grind) _ X;obtain⟨es,gw,f,rfl,h3,X⟩:=g.ma _ (by grind) _ _ _ (.arg1 h2) X;obtain⟨a,hg,rfl,aF,X⟩:=eO xab X;exact⟨_,_,_,by simp,.call ht ai h3 aF,X⟩
   rw[show fY qx _=[] by simp[fY,c,im,lw,gq,gI,fK,jY,fE,qx]]at X;exact⟨_,_,_,rfl,.name ht,X⟩
  ·obtain⟨l,us,rfl,ai,X⟩:=eO xab X;obtain⟨e,d,au,rfl,h2,X⟩:=g.e _ (by grind) _ X;obtain⟨a,G,rfl,aF,X⟩:=eO xab X;exact⟨_,_,_,by simp,.par ai h2 aF,X⟩
  iterate 2
   ·obtain⟨w,l,e,us,au,rfl,F,ai,h2,X,bM⟩:=ur g O X xab
    obtain⟨a,b,rfl,aF,X⟩:=eO xab X
    exact⟨_,w::l::(us++[a]),_,by simp,.key1 (by first|exact .inl F|exact .inr F) ai h2 aF,X⟩
  iterate 2
   ·obtain⟨w,l,e,us,au,rfl,F,ai,h2,X,bM⟩:=ur g O X xab
    obtain⟨c,j,rfl,al,X⟩:=eO xab X
    obtain⟨bg,u2,am,rfl,h3,X⟩:=g.e _ (by grind) _ X
    obtain⟨a,b,rfl,aF,X⟩:=eO xab X
    exact⟨_,w::l::(us++c::(u2++[a])),_,by simp,.key2 (by first|exact .inl F|exact .inr F) ai h2 al h3 aF,X⟩
  ·obtain⟨w,l,e,us,au,rfl,F,ai,h2,X,bM⟩:=ur g O X xab;obtain⟨c,j,rfl,al,X⟩:=eO xab X;obtain⟨bg,u2,am,rfl,h3,X⟩:=g.e _ (by grind) _ X;obtain⟨c2,u,rfl,aC,X⟩:=eO xab X;obtain⟨ah,u3,aU,rfl,h4,X⟩:=g.e _ (by grind) _ X;obtain⟨a,b,rfl,aF,X⟩:=eO xab X;exact⟨_,_,_,by simp,.key3 F ai h2 al h3 aC h4 aF,X⟩
  iterate 2
   ·obtain⟨w,l,e,us,au,rfl,F,ai,h2,X,bM⟩:=ur g O X xab
    obtain⟨c,j,rfl,al,X⟩:=eO xab X
    obtain⟨m,v,rfl,ao,X⟩:=eO xab X
    obtain⟨a,b,rfl,aF,X⟩:=eO xab X
    exact⟨_,w::l::(us++[c,m,a]),_,by simp,.keyN (by first|exact .inl F|exact .inr F) ai h2 al ao aF,X⟩
  ·obtain⟨w,l,e,us,au,rfl,F,ai,h2,X,bM⟩:=ur g O X xab;obtain⟨c,j,rfl,al,X⟩:=eO xab X;obtain⟨i,z,rfl,hi,X⟩:=eO xab X;obtain⟨c2,u,rfl,aC,X⟩:=eO xab X;obtain⟨m,v,rfl,ao,X⟩:=eO xab X;obtain⟨a,b,rfl,aF,X⟩:=eO xab X;exact⟨_,_,_,by simp,.put F ai h2 al hi aC ao aF,X⟩
  ·obtain⟨w,l,e,us,au,rfl,F,ai,h2,X,bM⟩:=ur g O X xab;obtain⟨c,j,rfl,al,X⟩:=eO xab X;obtain⟨x,y,rfl,ap,X⟩:=eO xab X;obtain⟨a,b,rfl,aF,X⟩:=eO xab X;exact⟨_,_,_,by simp,.grad F ai h2 al ap aF,X⟩
  ·obtain⟨w,l,e,us,au,rfl,F,ai,h2,X,bM⟩:=ur g O X xab;obtain⟨c,j,rfl,al,X⟩:=eO xab X;obtain⟨x,y,rfl,ap,X⟩:=eO xab X;obtain⟨c2,u,rfl,aC,X⟩:=eO xab X;obtain⟨ah,u3,aU,rfl,h4,X⟩:=g.e _ (by grind) _ X;obtain⟨a,b,rfl,aF,X⟩:=eO xab X;exact⟨_,_,_,by simp,.jvp F ai h2 al ap aC h4 aF,X⟩
  obtain⟨t,us,rfl,ht,X⟩:=eO xab X;exact⟨_,_,_,rfl,.num (.inr ht),X⟩
 rw[xA h]at X;obtain⟨t,us,rfl,ht,X⟩:=eO xab X;exact⟨_,_,_,rfl,.num (.inl ht),X⟩
theorem P0(g:Gr n k)(ts)(O:ts.length<k+1):DL n jY 1 ts:=by
 intro r X;rw[iy xab,vQ]at X;obtain⟨a,us,au,rfl,F,X⟩:=PZ g _ O _ X;obtain⟨e,G,f,rfl,h2,X⟩:=MT g _ (by grind) r a _ (.up01 F) X;grind
theorem MU(g:Gr n k)(ts)(O:ts.length<k+1):TkM n fK 2 ts:=by
 intro r a af ai X;rw[iy xab]at X;by_cases c:hdS ts=[43]\/hdS ts=[45]
 ·have F:fY fK (hdS ts)=[hdS ts,jY,fK]:=by
   rcases c with c|c<;>rw[c]<;>rfl
  rw[F]at X;obtain⟨o,us,rfl,ho,X⟩:=eO (by rcases c with c|c<;>rw[c]<;>decide) X;rw[<-ho]at c;obtain⟨b,d,au,rfl,h2,X⟩:=g.t us (by simp at O;omega) _ X;obtain⟨e,G,f,rfl,h3,X⟩:=g.mt au (by simp at O;omega) r (.bin o a b) (af++o::d) (.add ai c h2) X;exact⟨e,o::(d++G),f,by simp,by simpa using h3,X⟩
 have F:fY fK (hdS ts)=[]:=by
  unfold fY;rw[h6 xab,h6 xab,h6 xab,h6 xab,h7 rfl,h6 c]
 rw[F]at X;exact⟨a,[],ts,rfl,by simpa using ai,X⟩
theorem Q7(g:Gr n k)(ts)(O:ts.length<k+1):DL n gI 2 ts:=by
 intro r X;rw[iy xab,vR]at X;obtain⟨a,us,au,rfl,F,X⟩:=P0 g _ O _ X;obtain⟨e,G,f,rfl,h2,X⟩:=MU g _ (by grind) r a _ (.up12 F) X;grind
theorem P1(g:Gr n k)(ts)(O:ts.length<k+1):PY n ts:=by
 intro r es af ai X;rw[iy xab]at X;by_cases c:hdS ts=[44]
 ·have F:fY gQ (hdS ts)=[[44],gI,gQ]:=by rw[c];rfl
  rw[F]at X;obtain⟨o,us,rfl,ho,X⟩:=eO xab X;obtain⟨b,d,au,rfl,h2,X⟩:=g.e us (by simp at O;omega) _ X;obtain⟨e,G,f,rfl,h3,X⟩:=g.ma au (by simp at O;omega) r _ (af++o::d) (.argM ai ho h2) X;exact⟨e,o::(d++G),f,by simp,by simpa using h3,X⟩
 have F:fY gQ (hdS ts)=[]:=by
  unfold fY;rw[h6 xab,h6 xab,h6 xab,h6 xab,h6 xab,h6 xab,h6 xab,h6 xab,h6 xab,h7 rfl,h6 c]
 rw[F]at X;exact⟨es,[],ts,rfl,by simpa using ai,X⟩
theorem pT(n):∀k,Gr n k
 |0=>⟨λ_ h=>by omega,λ_ h=>by omega,λ_ h=>by omega,λ_ h=>by omega,λ_ h=>by omega,λ_ h=>by omega⟩
 |k+1=>⟨PZ (pT n k),MT (pT n k),P0 (pT n k),MU (pT n k),Q7 (pT n k),P1 (pT n k)⟩
theorem qJ{r}(h:ft n ts (gI::r)=-1):∃e us au,ts=us++au/\Pr 2 [e] us/\ft n au r=-1:=(pT n (ts.length+1)).e ts yaf r h
