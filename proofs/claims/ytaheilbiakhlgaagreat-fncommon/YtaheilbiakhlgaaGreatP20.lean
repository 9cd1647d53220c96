import Derived.Test.YtaheilbiakhlgaaGreatP19
namespace Go.Proofs.Z
open Tryz Go.RowKit Flt
set_option maxRecDepth 1000000
set_option maxHeartbeats 0
section
attribute[local go_sem] eF eE eD
variable{w J:World}{ts:List Tok}{aa:List (List UInt8)}
def RlT(w:World)(ss:List (List UInt8))(e:Ending)(w':World):Prop:=(ss=[]/\e=.returned (.slice none 0 0)/\w'=w)\/(ss≠[]/\e=.returned (.slice (some ⟨w.heap.size,0,none⟩) ss.length ss.length)/\w'=w.alloc (.cells (ss.map λl=>eO l).toArray 9))
theorem OW(l h):(((⟨l.toArray⟩:ByteArray)[0]'h).toNat:Int)=bt l 0:=by
 cases l with
 |nil=>simp[ByteArray.size]at h
 |cons a r=>rfl
theorem FL(l w):Calls prog 135 #[eO l] w λe J=>e=.returned (.bool (jP l))/\J=w:=by
 have ae:=gu l;have bS:=OW l;unfold jP;generalize bt l 0=x at bS⊢;cases aO:decide (1<l.length)
 ·have t:¬((1:Int)<l.length):=by simp at aO;omega
  go_enter func135,ntmps135;go_wp2;go_ret;exact⟨rfl,rfl⟩
 have ai:1<l.length:=by simpa using aO
 have B:0<l.length:=xaa;have t:(1:Int)<l.length:=xaa;cases aX:decide (65<=x)<;>(go_enter func135,ntmps135;go_wp2;go_ret;exact⟨rfl,rfl⟩)
theorem Jz(s w):Calls prog 154 #[eO s] w (RlT w (lg s)):=by
 by_cases h:s∈UL
 ·simp only[UL,List.mem_cons,List.not_mem_nil,or_false]at h;rcases h with rfl|rfl|rfl|rfl|rfl|rfl|rfl|rfl|rfl|rfl|rfl|rfl|rfl|rfl<;>(go_enter func154,ntmps154;go_wp2;go_ret;exact .inr ⟨by decide,rfl,rfl⟩)
 rw[wO h];simp only[UL,List.mem_cons,List.not_mem_nil,or_false,not_or,<-beq_eq_false_iff_ne]at h;obtain⟨_,_,_,_,_,_,_,_,_,_,_,_,_,_⟩:=h;go_enter func154,ntmps154;go_wp2;go_ret;exact .inr ⟨by decide,rfl,rfl⟩
theorem MQ(p s w):Calls prog 136 #[eO p,eO s] w (RlT w (gG p s)):=by
 by_cases h:p∈PQ
 ·have H:=@Fm p s h;simp only[PQ,List.mem_cons,List.not_mem_nil,or_false]at h;by_cases ae:s∈RL
  ·clear H;simp only[RL,List.mem_cons,List.not_mem_nil,or_false]at ae;rcases h with rfl|rfl|rfl|rfl|rfl|rfl|rfl|rfl|rfl|rfl<;>rcases ae with rfl|rfl|rfl|rfl|rfl|rfl|rfl|rfl|rfl|rfl|rfl|rfl|rfl<;>(go_enter func136,ntmps136;go_wp2;go_ret;first|exact .inl ⟨rfl,rfl,rfl⟩|exact .inr ⟨by decide,rfl,rfl⟩)
  rw[H ae];clear H;simp only[RL,List.mem_cons,List.not_mem_nil,or_false,not_or,<-beq_eq_false_iff_ne]at ae;obtain⟨_,_,_,_,_,_,_,_,_,_,_,_,_⟩:=ae;rcases h with rfl|rfl|rfl|rfl|rfl|rfl|rfl|rfl|rfl|rfl<;>(go_enter func136,ntmps136;go_wp2;go_ret;first|exact .inl ⟨rfl,rfl,rfl⟩|exact .inr ⟨by decide,rfl,rfl⟩)
 rw[Fl s h];simp only[PQ,List.mem_cons,List.not_mem_nil,or_false,not_or,<-beq_eq_false_iff_ne,iH,lz,gN,gV,gi,kG,f8,qx,nN,ij]at h;obtain⟨_,_,_,_,_,_,_,_,_,_⟩:=h;have bw:V _:=Jz s w;generalize lg s=us at bw;go_enter func136,ntmps136;go_wp2_with fail;go_at_call 154
 refine yai bw.o ?_;rintro e aG (⟨rfl,rfl,rfl⟩|⟨B,rfl,rfl⟩)
 ·go_wp2;go_ret;exact .inl ⟨rfl,rfl,rfl⟩
 have bl:V (us≠[]):=B;clear B;go_wp2;go_ret;exact .inr ⟨bl.o,rfl,rfl⟩
theorem WB.pop{W I a n cap x}(h:WB W I (.slice a n cap) (aa++[x])):WB W I (.slice a aa.length cap) aa:=by
 unfold WB at*;have ah:(aa++[x]).length=aa.length+1:=by simp
 rw[ah]at h;refine⟨by simp,?_⟩;rcases h.2 with⟨_,c⟩|⟨g,c,H,e,N,aD,ad,an,bE,bY⟩
 ·omega
 cases e;refine .inr ⟨g,_,_,rfl,N,aD,by omega,an,bE,?_⟩;have:H.toList.take (aa.length*1)=(H.toList.take ((aa.length+1)*1)).take aa.length:=by grind
 simp_all
theorem MR(st):st.length<=wts st:=by
 induction st<;>grind[As,wts]
theorem OX(s):wt s<=7:=by
 grind[wt]
theorem MT(st):wts st<=7*st.length:=by
 induction st<;>grind[wts,OX]
theorem OY(st):mu st<=7*st.length+1:=by
 grind[MT,mu]
theorem th{s st}(h:Ar st=false):ir s st=st:=by
 cases st with
 |nil=>exact nD s
 |cons p r=>exact mj h
theorem tr(s):gG lJ s=lg s:=rfl
theorem uS(s):gG kG s=[lJ,f8]:=rfl
theorem uT(s):gG gV s=[kG,gi]:=rfl
theorem xe(s r):ir s (lJ::r)=lg s++r:=by
 rw[iW xab,tr,th (uM s r)]
theorem rQ(s r):ir s (kG::r)=lg s++f8::r:=by
 rw[iW xab,uS];exact xe s _
theorem rR(s r):ir s (gV::r)=lg s++f8::gi::r:=by
 rw[iW xab,uT];exact rQ s _
theorem pJ(s st):(ir s st).length<=st.length+10:=by
 match st with
 |[]=>rw[nD];simp
 |p::r=>
  cases h:jP p
  ·rw[mj h];omega
  have aI:=(uN s).2;rcases sU p s r with c|c|⟨e,c⟩|⟨e,c⟩|⟨e,c⟩
  ·rw[iW h,c,List.nil_append];have:=pJ s r;rw[yap];omega
  ·rw[iW h,th c,yak,yap];have:=yw p s;omega
  ·rw[e,rR,yak];simp only[yap];omega
  ·rw[e,rQ,yak];simp only[yap];omega
  rw[iW h,c];show(ir s (gV::ij::r)).length<=_;rw[rR,yak];simp only[yap];omega
termination_by st.length
theorem MU(w:World)(l):WC (w.alloc (.cells #[eO l] 9)) ⟨w.heap.size,0,none⟩ [l]:=by
 intro j x e;grind[j9,yau]
theorem WB.form{W I v}(f:WB W I v aa):∃a cap,v=.slice a aa.length cap:=by
 rcases f.2 with⟨e,c⟩|⟨g,cap,H,e,_⟩<;>grind
theorem RlT.uni{e}(h:RlT w aa e J):∃a7 ab m,e=.returned (.slice a7 m m)/\aa.length=m/\(0<m->a7=some ⟨ab,0,none⟩)/\ab=w.heap.size/\(0<m->ab<J.heap.size)/\(∀q,q<m->J.cell? ⟨ab,q,none⟩=some (eO (aa.getD q [])))/\Kept 0 0 w J:=by
 rcases h with⟨rfl,rfl,rfl⟩|⟨_,rfl,rfl⟩
 ·grind[Kept.refl]
 refine⟨_,_,_,rfl,rfl,λ_=>rfl,rfl,λ_=>by simp,λq ao=>?_,ez 0 0 w _⟩;simp_all
theorem FM(w I v st s)(f:WB w I v st.reverse)(aT:I<=w.heap.size)(hn:st.length<=60000):
  Calls prog 100 #[v,eO s] w λe J=>∃v',e=.returned v'/\WB J I v' (ir s st).reverse/\Chg (λb=>I<=b) w J:=by
 have aL:V _:=f;have aq:V _:=λp W=>MQ p s W;have aQ:V _:=FL;have aH:V _:=aT;have ae:V (mu st<=420001):=by have:=OY st;show _<=_;omega
 obtain⟨E,b3⟩:∃E,E=ir s st:=⟨_,rfl⟩
 rw[<-b3];have HE:V _:=b3.symm;clear f aT b3;go_enter func100,ntmps100;go_wp2_with fail;go_loopg [0] (mu st) (λm u W=>∃N,mu N=m/\V (m<=420001)/\N.length<=420010/\V (WB W I u N.reverse)/\V (Chg (λb=>I<=b) w W)/\V (ir s N=E))
 case atStart=>exact⟨_,rfl,ae,by omega,aL,(Kept.refl 0 0 w).chg,HE⟩
 case round=>
  obtain⟨N,(G:V _),aw,ah,C,al,aU⟩:=hrel;cases N with
  |nil=>
   obtain⟨a,cap,rfl⟩:=WB.form C.o;have R:V _:=(nD s).symm.trans aU.o;rw[show(([]:List _).reverse).length=0 from rfl];go_wp2_with fail;go_ret;exact⟨_,rfl,hS R.o C.o,al.o⟩
  |cons p r=>
   obtain⟨g,cap,aI,aY,bj,ak,P⟩:=WB.at_ C.o xac;have b8:((p::r).reverse).length=r.length+1:=by simp
   rw[b8]at aI P;subst aI
   have c1:wr.cell? ⟨g,r.length,none⟩=some (eO p):=by
    have:=ak r.length p xac;rwa [j9,Nat.zero_add]at this
   have n:V _:=aQ.o p wr;have cz:r.length+1<=420010:=by simpa using ah
   clear ak b8 ah;cases aF:jP p
   ·have R:V _:=(mj aF).symm.trans aU.o;rw[aF]at n;clear aF;go_wp2_with (go_at_call 135;refine yai n.o ?_;rintro e aG ⟨rfl,X⟩;obtain rfl:=X.symm);go_ret;exact⟨_,rfl,hS R.o C.o,al.o⟩
   have R:V _:=(iW aF).symm.trans aU.o;have H:V (mu (gG p s++r)<gk):=by rw[<-G.o];exact Bz p s r aF
   have o:V (r.length+(gG p s).length<=420010):=by
    have B:mu (p::r)=wt p+wts r+1:=by unfold mu Ar;rw[hI aF];rfl
    have U:=MR r;have h3:=yw p s;have a6:=G.o;have bK:=aw.o;have bm:=As p;show _<=_;omega
   rw[aF]at n;have K:V _:=aq.o p wr;generalize gG p s=l at H o K R
   have F:V (WB wr I (hE g r.length cap) r.reverse):=by
    have h:=WB.pop (by have:=C.o;rw[List.reverse_cons]at this;exact this);rw[List.length_reverse]at h;exact h
   clear aF C aU G
   go_upto_region 3 with (first
    |(go_at_call 135;refine yai n.o ?_;rintro e aG ⟨rfl,X⟩;obtain rfl:=X.symm)
    |(go_at_call 136;refine yai K.o ?_;intro e ag y;obtain⟨a7,ab,m,rfl,Q,z,au,S,Y,an⟩:=RlT.uni y))
   have ap:V _:=WB.keep F.o an;have bv:V _:=Chg.andThen al.o an.chg;have O:V ((0<m->ab<ag.heap.size)/\∀q,q<m->ag.cell? _=some _):=⟨S,Y⟩
   have aD:V _:=Q;have ax:g≠ab:=xaa;have b4:=an.size;have aj:V (I<=ag.heap.size):=by show _<=_;omega
   have af:V _:=z;rw[aD.o]at o;have av:=o.o;clear y Q z au S Y an c1 al F n K;go_upto_region 5 with fail;go_loopw [0,6] (λu bX W=>∃j:Nat,j<=m/\bX=hF ((j:Int)-1)/\V (WB W I u (l.drop j++r).reverse)/\V (Chg (λb=>I<=b) w W)/\V ((0<m->ab<W.heap.size)/\(∀q,q<m->W.cell? ⟨ab,q,none⟩=some (eO (l.getD q [])))/\(∀h,u.ownBlock=some h->h≠ab)/\I<=W.heap.size)) (λ_ bX _=>(intOf bX+1).toNat)
   case atStart=>
    refine⟨m,yad,rfl,?_,bv,⟨O.o.1,O.o.2,λh ba=>?_,aj.o⟩⟩
    ·rw[List.drop_eq_nil_of_le (by rw[aD.o];exact yad),List.nil_append];exact ap
    simp[Value.ownBlock]at ba;omega
   case round=>
    obtain⟨j,hj,rfl,C,al,a2⟩:=hrel;obtain⟨a,b0,t⟩:=WB.form C.o;subst t;by_cases bH:j=0
    ·subst bH;rw[List.drop_zero]at C;go_wp2_with fail;go_roundg (mu (l++r))
     case measure=>exact H.o
     case rel=>exact⟨_,rfl,(by show _<=_;have:=H.o;have:=aw.o;omega),by rw[yak,aD.o];omega,C,al,R⟩
    obtain⟨q,rfl⟩:∃q,j=q+1:=⟨j-1,by omega⟩
    have ao:q<m:=xaa;obtain rfl:=af.o xaa;have c2:=a2.o.2.1 q ao
    have HD:V (l.drop q=l.getD q []::l.drop (q+1)):=by
     show _=_;rw[List.drop_eq_getElem_cons (hR aD.o ao),yah,yal (hR aD.o ao)];rfl
    have b8:(l.drop (q+1)++r).reverse.length<=420010:=by
     rw[List.length_reverse,yak,List.length_drop,aD.o];omega
    have cn:V _:=b8;generalize l.getD q _=x at c2 HD;generalize am:(l.drop _++r).reverse=xs at C b8 cn a2;have ar:V _:=am;generalize bd:xs.length=nn at*;have bz:V _:=bd;clear am bd;go_wp2_with (first|(at_builtin;refine s8 _ rfl _ _ rfl I _ _ rfl (WB.keep C.o (ez 0 0 _ _)) _ 1 1 _ rfl rfl (MU _ x) xab ?c2 ?c3 ?_)|fail)
    case c2=>have:=cn.o;have:=bz.o;omega
    case c3=>have:=a2.o.2.2.2;simp;omega
    intro g9 cap9 n9 be bO b1 bV b6;have bE:=ez 0 0 wr (.cells #[eO x] 9)
    have R1:V (WB be I (hE g9 n9 cap9) (l.drop q++r).reverse):=by
     show WB _ _ _ _;rw[HD.o,List.cons_append,List.reverse_cons,ar.o];exact b1
    have a0:∀b,(Value.slice a _ _).ownBlock=some b->_:=λb hb=>(WB.blk C.o hb).1;have R2:V _:=Chg.andThen (Chg.andThen al.o bE.chg) ⟨bV.os,bV.tape,bV.output,bV.size,λi hi hn=>bV.block i hi (λc=>hn (a0 i c))⟩
    have R3:V ((0<m->ab<be.heap.size)/\(∀q,q<m->be.cell? ⟨ab,q,none⟩=some (eO (l.getD q [])))/\(∀h,(hE g9 n9 cap9).ownBlock=some h->h≠ab)/\I<=be.heap.size):=by
     obtain⟨a1,Z,a3,a4⟩:=a2.o;have ai:=a1 xaa;have bQ:=bV.size;have bY:(wr.alloc (.cells #[eO x] 9)).heap.size=wr.heap.size+1:=by simp
     refine⟨λ_=>by omega,λq ao=>?_,λh ba=>?_,by omega⟩
     ·rw[bV.cell (by show ab<_;omega) (λc=>a3 _ c rfl),bE.cell ai xaa];exact Z q ao
     simp[Value.ownBlock]at ba;subst ba;rcases b6 with c|c
     ·exact a3 _ c
     omega
    clear b1 bV b6 bE a0 bO;go_wp2_with fail;go_roundw
    case rel=>exact⟨q,by omega,by go_num,R1,R2,R3⟩
    case measure=>simp[intOf]
theorem TkA.keep{g off n}(h:TkA w g off n ts)(k:Kept 0 0 w J):TkA J g off n ts:=
 ⟨h.len,yaj h.lt k.size,λj hj=>(k.cell (p:=⟨g,off+j*3,none⟩) h.lt xaa).trans (h.c0 j hj),λj hj=>(k.cell (p:=⟨g,off+j*3+1,none⟩) h.lt xaa).trans (h.c1 j hj),λj hj=>(k.cell (p:=⟨g,off+j*3+2,none⟩) h.lt xaa).trans (h.c2 j hj)⟩
theorem WB.lit1(w:World)(l):WB (w.alloc (.cells #[eO l] 9)) w.heap.size (hE w.heap.size 1 1) [l]:=
 World.ownsRow_lit (base:=w.heap.size) (e:=9) (size:=1) w #[eO l] 1 yad (by unfold maxLen;omega) rfl
theorem FN{k}(h:k<ts.length):ts.drop k=ts.getD k hL::ts.drop (k+1):=by
 simp_all
theorem uU{W W'}(k:Kept 0 0 w W)(c:Chg (λb=>w.heap.size<=b) W W'):Kept 0 0 w W':=Chg.kept k c (λ_ h=>h)
theorem xg(w bz)(m cap n:Nat)(ts)(ah:ts.length=m)(aw:m<=5000)(bh:0<m->∃g off,bz=some ⟨g,off,none⟩/\TkA w g off m ts):
  Calls prog 60 #[.slice bz m cap,hF n] w λe J=>e=.returned (hF (fS n ts [iH]))/\Kept 0 0 w J:=by
 have au:V _:=FM;have ba:V _:=bh;have HL:V _:=ah;have a9:V (WB _ _ _ [iH].reverse):=WB.lit1 w _;obtain⟨E,b3⟩:∃E,E=fS n ts [iH]:=⟨_,rfl⟩
 rw[<-b3];have HE:V (fS n (ts.drop 0) _=E):=b3.symm;clear b3 bh ah;go_enter func60,ntmps60;go_wp2_with fail;change Code.wp _ _ _ _ (w.alloc (.cells #[eO iH] 9));have b4:V _:=ez 0 0 w (.cells #[eO iH] 9);generalize w.alloc _=aG at a9 b4⊢;go_loopw [5,6] (λv aM W=>∃(k:Nat) (st:List (List UInt8)),k<=m/\aM=hF k/\st.length<=1+10*k/\V (WB W w.heap.size v st.reverse)/\V (Kept 0 0 w W)/\V (fS n (ts.drop k) st=E)) (λ_ aM _=>m-(intOf aM).toNat)
 case atStart=>grind
 case round=>
  obtain⟨k,st,O,rfl,ea,C,ar,b3⟩:=hrel;by_cases aB:k<m
  ·obtain⟨g,off,rfl,a2⟩:=ba.o xaa;have c0:=(a2.keep ar.o).c0 k aB;have x:V _:=a2;have l:=b3.o;rw[FN (hR HL.o aB)]at l;have bT:V _:=au.o _ _ _ _ (ts.getD k hL).sym C.o ar.o.size xaa;have am:V (∀W,Kept 0 0 w W->W.cell? _=some _/\W.cell? _=some _):=λW al=>⟨(a2.keep al).c0 k aB,(a2.keep al).c1 k aB⟩
   generalize ts.getD k _=K at c0 l bT am;have o:V _:=l;obtain⟨a,b0,t⟩:=WB.form C.o;generalize st.reverse.length=nn at t;have i:=pJ K.sym st;generalize ce:ir _ _=s at bT i;have co:V _:=ce;clear ce l a2 b3 x;subst t;go_upto_region 6 with (go_at_call 100;refine yai bT.o ?_;rintro e ag ⟨bc,rfl,N,j⟩);have bP:V _:=N;have bN:V _:=uU ar.o j;obtain⟨c1,c2⟩:=am.o _ bN.o;clear N j c0 bT C ar;cases s with
   |nil=>
    obtain⟨Z,q,a0⟩:=WB.form bP.o;rw[show(([]:List _).reverse).length=0 from rfl]at a0;subst a0
    have R:V (K.pos=E):=by
     have h:=o.o;rw[fS,co.o]at h;exact h
    go_quiet (fail)
    have bX:V _:=Kept.trans bN.o (eL 0 0 _ nq);obtain⟨d1,d2⟩:=am.o _ bX.o;generalize ag.drewN _=a8 at bX d1 d2⊢;clear c1 c2;go_wp2_with fail;go_ret;exact⟨congrArg (λz=>Ending.returned (.int _ z)) R.o,bX.o⟩
   |cons p r=>
    obtain⟨aC,q,a0,aY,bj,ak,P⟩:=WB.at_ bP.o xac;have b8:((p::r).reverse).length=r.length+1:=by simp
    rw[b8]at a0 P;subst a0
    have c3:ag.cell? ⟨aC,r.length,none⟩=some (eO p):=by
     have:=ak r.length p xac;rwa [j9,Nat.zero_add]at this
    have S:r.length+1<=100000:=by simp at i;omega
    have y:r.length<=10*k+10:=by simp at i;omega
    have bR:((r.length:Int)+1==0)=false:=by simp;omega
    have aS:IntKind.i64.wrap ((r.length:Nat)+1-1)=(r.length:Nat):=by rw[IntKind.wrap_i64];omega
    have bb:(0:Int)<=(r.length:Nat):=xaa;have bq:(r.length:Int)<(r.length:Nat)+1:=xaa;cases ao:(p==K.sym)
    ·have ca:p≠K.sym:=λc=>by rw[c]at ao;simp at ao
     have R:V (K.pos=E):=by
      have h:=o.o;rw[fS,co.o]at h;simp only[hG ca]at h;exact h
     have u:(p !=K.sym)=true:=by unfold bne;rw[ao];rfl
     clear ak b8 i ca;go_quiet (fail)
     have bX:V _:=Kept.trans bN.o (eL 0 0 _ nq);obtain⟨d1,d2⟩:=am.o _ bX.o;generalize ag.drewN _=a8 at bX d1 d2⊢;clear c1 c2 c3;go_wp2_with fail;go_ret;exact⟨congrArg (λz=>Ending.returned (.int _ z)) R.o,bX.o⟩
    have ad:p=K.sym:=by simpa using ao
    have R:V (fS n (ts.drop (k+1)) r=E):=by
     have h:=o.o;rw[fS,co.o]at h;simp only[hI ad]at h;exact h
    have F:V (WB ag w.heap.size (hE aC r.length q) r.reverse):=by
     have h:=WB.pop (by have:=bP.o;rw[List.reverse_cons]at this;exact this);rw[List.length_reverse]at h;exact h
    have u:(p !=K.sym)=false:=by unfold bne;rw[ao];rfl
    clear ak b8 i ad bP;go_quiet (fail)
    have bX:V _:=Kept.trans bN.o (eL 0 0 _ nq);have f:V _:=WB.keep F.o (eL 0 0 _ nq);generalize ag.drewN _=a8 at bX f⊢;clear c1 c2 c3;go_wp2_with fail;go_roundw;exact⟨k+1,r,by omega,by go_num,by omega,f,bX,R⟩;simp[intOf];omega
  obtain rfl:k=m:=xaa;have l:=b3.o;rw[List.drop_eq_nil_of_le (by rw[HL.o];exact yad),fS]at l;have bT:V _:=au.o _ _ _ _ Jk C.o ar.o.size xaa;have o:V _:=l;obtain⟨a,b0,t⟩:=WB.form C.o;generalize st.reverse.length=nn at t;have i:=pJ Jk st;generalize ir _ _=s at bT i o;clear l b3;subst t;go_upto_region 10 with (go_at_call 100;refine yai bT.o ?_;rintro e ag ⟨bc,rfl,N,j⟩);have bP:V _:=N;have bN:V _:=uU ar.o j;clear N j bT C ar;obtain⟨Z,q,a0⟩:=WB.form bP.o;cases s with
  |nil=>
   rw[show(([]:List _).reverse).length=0 from rfl]at a0;subst a0;have R:V ((-1:Int)=E):=by have h:=o.o;rw[hI rfl]at h;exact h
   go_wp2_with fail;go_ret;exact⟨congrArg (λz=>Ending.returned (.int _ z)) R.o,bN.o⟩
  |cons p r=>
   rw[show((p::r).reverse).length=r.length+1 by simp]at a0;subst a0;have R:V (n=E):=by have h:=o.o;rw[hG xac]at h;exact h
   have S:r.length+1<=100000:=by simp at i;omega
   have bq:(0:Int)<(r.length:Nat)+1:=xaa;clear i;go_wp2_with fail;go_ret;exact⟨congrArg (λz=>Ending.returned (.int _ z)) R.o,bN.o⟩
end
section
variable{n k:Nat}{ts:List Tok}
def hdS:List Tok->List UInt8
 |[]=>Jk
 |t::_=>t.sym
theorem iN{n p r}(h:jP p=true):∀ts:List Tok,fS n ts (p::r)=fS n ts (gG p (hdS ts)++r)
 |[]=>by rw[fS,fS,iW h];rfl
 |t::ts=>by rw[fS,fS,iW h];rfl
theorem eV{n s r}(h:jP s=false):∀{ts:List Tok},fS n ts (s::r)=-1->∃t us,ts=t::us/\t.sym=s/\fS n us r=-1
 |[],X=>by
  grind[fS,mj]
 |t::us,X=>by
  grind[fS,mj]
def CY(n:Nat)(p:List UInt8)(l:Nat)(ts:List Tok):Prop:=∀r,fS n ts (p::r)=-1->∃e us ws,ts=us++ws/\Pr l [e] us/\fS n ws r=-1
def TkM(n:Nat)(p:List UInt8)(l:Nat)(ts:List Tok):Prop:=∀r a ls,Pr l [a] ls->fS n ts (p::r)=-1->∃e us ws,ts=us++ws/\Pr l [e] (ls++us)/\fS n ws r=-1
def OZ(n:Nat)(ts:List Tok):Prop:=∀r es ls,Pr 3 es ls->fS n ts (ij::r)=-1->∃es' us ws,ts=us++ws/\Pr 3 es' (ls++us)/\fS n ws r=-1
structure Gr(n k:Nat):Prop where
 u:∀ts,ts.length<k->CY n lJ 0 ts
 mu:∀ts,ts.length<k->TkM n f8 1 ts
 t:∀ts,ts.length<k->CY n kG 1 ts
 mt:∀ts,ts.length<k->TkM n gi 2 ts
 e:∀ts,ts.length<k->CY n gV 2 ts
 ma:∀ts,ts.length<k->OZ n ts
theorem Lu(g:Gr n k)(ts)(O:ts.length<k+1):TkM n f8 1 ts:=by
 intro r a h ah X;rw[iN xab]at X;by_cases c:hdS ts=[42]\/hdS ts=[47]
 ·have aU:gG f8 (hdS ts)=[hdS ts,lJ,f8]:=by
   rcases c with c|c<;>rw[c]<;>rfl
  rw[aU]at X;obtain⟨o,us,rfl,ax,X⟩:=eV (by rcases c with c|c<;>rw[c]<;>decide) X;rw[<-ax]at c;obtain⟨b,f,Y,rfl,U,X⟩:=g.u us (by simp at O;omega) _ X;obtain⟨e,p,q,rfl,h3,X⟩:=g.mu Y (by simp at O;omega) r (.bin o a b) (h++o::f) (.mul ah c U) X;exact⟨e,o::(f++p),q,by simp,by simpa using h3,X⟩
 have aU:gG f8 (hdS ts)=[]:=by
  unfold gG;rw[hG xab,hG xab,hG xab,hG xab,hG xab,hG xab,hI rfl,hG c]
 rw[aU]at X;exact⟨a,[],ts,rfl,by simpa using ah,X⟩
theorem tu(g:Gr n k)(O:ts.length<k+1){x R}(X:fS n ts (x::[40]::gV::R)=-1)(ap:jP x=false):∃y l e us Y,ts=y::l::(us++Y)/\y.sym=x/\l.sym=[40]/\Pr 2 [e] us/\fS n Y R=-1/\Y.length<k:=by
 obtain⟨y,us,rfl,af,X⟩:=eV ap X;obtain⟨l,us,rfl,ah,X⟩:=eV xab X;obtain⟨e,f,Y,rfl,U,X⟩:=g.e _ (by grind) _ X;grind
theorem O0(g:Gr n k)(ts)(O:ts.length<k+1):CY n lJ 0 ts:=by
 intro r X;rw[iN xab,tr]at X;generalize hdS _=s at X;by_cases h:s∈UL
 ·simp only[UL,List.mem_cons,List.not_mem_nil,or_false]at h;rcases h with rfl|rfl|rfl|rfl|rfl|rfl|rfl|rfl|rfl|rfl|rfl|rfl|rfl|rfl
  ·obtain⟨o,us,rfl,ax,X⟩:=eV xab X;obtain⟨e,f,Y,rfl,U,X⟩:=g.u _ (by grind) _ X;exact⟨_,_,_,rfl,.neg ax U,X⟩
  ·obtain⟨t,us,rfl,ht,X⟩:=eV xab X;have X:fS n _ (qx::r)=-1:=X;rw[iN xab]at X;by_cases c:hdS us=[40]
   ·rw[c]at X;obtain⟨l,f,rfl,ah,X⟩:=eV xab X;have X:fS n _ (nN::[41]::r)=-1:=X;rw[iN xab]at X;by_cases c2:hdS f=[41]
    ·rw[c2]at X;obtain⟨j,p,rfl,av,X⟩:=eV xab X;exact⟨_,_,_,rfl,.call0 ht ah av,X⟩
    rw[show gG nN _=[gV,ij] by simp[gG,c2,iH,lz,gN,gV,gi,kG,f8,qx,nN]]at X;obtain⟨e,p,Y,rfl,U,X⟩:=g.e _ (by grind) _ X;obtain⟨es,g2,q,rfl,h3,X⟩:=g.ma _ (by grind) _ _ _ (.arg1 U) X;obtain⟨j,F,rfl,av,X⟩:=eV xab X;exact⟨_,_,_,by simp,.call ht ah h3 av,X⟩
   rw[show gG qx _=[] by simp[gG,c,iH,lz,gN,gV,gi,kG,f8,qx]]at X;exact⟨_,_,_,rfl,.name ht,X⟩
  ·obtain⟨l,us,rfl,ah,X⟩:=eV xab X;obtain⟨e,f,Y,rfl,U,X⟩:=g.e _ (by grind) _ X;obtain⟨j,p,rfl,av,X⟩:=eV xab X;exact⟨_,_,_,by simp,.par ah U av,X⟩
  iterate 2
   ·obtain⟨y,l,e,us,Y,rfl,B,ah,U,X,bZ⟩:=tu g O X xab
    obtain⟨j,u,rfl,av,X⟩:=eV xab X
    exact⟨_,y::l::(us++[j]),_,by simp,.key1 (by first|exact .inl B|exact .inr B) ah U av,X⟩
  iterate 2
   ·obtain⟨y,l,e,us,Y,rfl,B,ah,U,X,bZ⟩:=tu g O X xab
    obtain⟨c,v,rfl,ak,X⟩:=eV xab X
    obtain⟨a0,u2,ag,rfl,h3,X⟩:=g.e _ (by grind) _ X
    obtain⟨j,u,rfl,av,X⟩:=eV xab X
    exact⟨_,y::l::(us++c::(u2++[j])),_,by simp,.key2 (by first|exact .inl B|exact .inr B) ah U ak h3 av,X⟩
  ·obtain⟨y,l,e,us,Y,rfl,B,ah,U,X,bZ⟩:=tu g O X xab;obtain⟨c,v,rfl,ak,X⟩:=eV xab X;obtain⟨a0,u2,ag,rfl,h3,X⟩:=g.e _ (by grind) _ X;obtain⟨c2,w,rfl,ab,X⟩:=eV xab X;obtain⟨aj,u3,a8,rfl,a6,X⟩:=g.e _ (by grind) _ X;obtain⟨j,u,rfl,av,X⟩:=eV xab X;exact⟨_,_,_,by simp,.key3 B ah U ak h3 ab a6 av,X⟩
  iterate 2
   ·obtain⟨y,l,e,us,Y,rfl,B,ah,U,X,bZ⟩:=tu g O X xab
    obtain⟨c,v,rfl,ak,X⟩:=eV xab X
    obtain⟨m,z,rfl,aw,X⟩:=eV xab X
    obtain⟨j,u,rfl,av,X⟩:=eV xab X
    exact⟨_,y::l::(us++[c,m,j]),_,by simp,.keyN (by first|exact .inl B|exact .inr B) ah U ak aw av,X⟩
  ·obtain⟨y,l,e,us,Y,rfl,B,ah,U,X,bZ⟩:=tu g O X xab;obtain⟨c,v,rfl,ak,X⟩:=eV xab X;obtain⟨i,G,rfl,hi,X⟩:=eV xab X;obtain⟨c2,w,rfl,ab,X⟩:=eV xab X;obtain⟨m,z,rfl,aw,X⟩:=eV xab X;obtain⟨j,u,rfl,av,X⟩:=eV xab X;exact⟨_,_,_,by simp,.put B ah U ak hi ab aw av,X⟩
  ·obtain⟨y,l,e,us,Y,rfl,B,ah,U,X,bZ⟩:=tu g O X xab;obtain⟨c,v,rfl,ak,X⟩:=eV xab X;obtain⟨x,C,rfl,ap,X⟩:=eV xab X;obtain⟨j,u,rfl,av,X⟩:=eV xab X;exact⟨_,_,_,by simp,.grad B ah U ak ap av,X⟩
  ·obtain⟨y,l,e,us,Y,rfl,B,ah,U,X,bZ⟩:=tu g O X xab;obtain⟨c,v,rfl,ak,X⟩:=eV xab X;obtain⟨x,C,rfl,ap,X⟩:=eV xab X;obtain⟨c2,w,rfl,ab,X⟩:=eV xab X;obtain⟨aj,u3,a8,rfl,a6,X⟩:=g.e _ (by grind) _ X;obtain⟨j,u,rfl,av,X⟩:=eV xab X;exact⟨_,_,_,by simp,.jvp B ah U ak ap ab a6 av,X⟩
  obtain⟨t,us,rfl,ht,X⟩:=eV xab X;exact⟨_,_,_,rfl,.num (.inr ht),X⟩
 rw[wO h]at X;obtain⟨t,us,rfl,ht,X⟩:=eV xab X;exact⟨_,_,_,rfl,.num (.inl ht),X⟩
theorem O1(g:Gr n k)(ts)(O:ts.length<k+1):CY n kG 1 ts:=by
 intro r X;rw[iN xab,uS]at X;obtain⟨a,us,Y,rfl,B,X⟩:=O0 g _ O _ X;obtain⟨e,p,q,rfl,U,X⟩:=Lu g _ (by grind) r a _ (.up01 B) X;grind
theorem Lv(g:Gr n k)(ts)(O:ts.length<k+1):TkM n gi 2 ts:=by
 intro r a h ah X;rw[iN xab]at X;by_cases c:hdS ts=[43]\/hdS ts=[45]
 ·have aU:gG gi (hdS ts)=[hdS ts,kG,gi]:=by
   rcases c with c|c<;>rw[c]<;>rfl
  rw[aU]at X;obtain⟨o,us,rfl,ax,X⟩:=eV (by rcases c with c|c<;>rw[c]<;>decide) X;rw[<-ax]at c;obtain⟨b,f,Y,rfl,U,X⟩:=g.t us (by simp at O;omega) _ X;obtain⟨e,p,q,rfl,h3,X⟩:=g.mt Y (by simp at O;omega) r (.bin o a b) (h++o::f) (.add ah c U) X;exact⟨e,o::(f++p),q,by simp,by simpa using h3,X⟩
 have aU:gG gi (hdS ts)=[]:=by
  unfold gG;rw[hG xab,hG xab,hG xab,hG xab,hI rfl,hG c]
 rw[aU]at X;exact⟨a,[],ts,rfl,by simpa using ah,X⟩
theorem PO(g:Gr n k)(ts)(O:ts.length<k+1):CY n gV 2 ts:=by
 intro r X;rw[iN xab,uT]at X;obtain⟨a,us,Y,rfl,B,X⟩:=O1 g _ O _ X;obtain⟨e,p,q,rfl,U,X⟩:=Lv g _ (by grind) r a _ (.up12 B) X;grind
theorem O2(g:Gr n k)(ts)(O:ts.length<k+1):OZ n ts:=by
 intro r es h ah X;rw[iN xab]at X;by_cases c:hdS ts=[44]
 ·have aU:gG ij (hdS ts)=[[44],gV,ij]:=by rw[c];rfl
  rw[aU]at X;obtain⟨o,us,rfl,ax,X⟩:=eV xab X;obtain⟨b,f,Y,rfl,U,X⟩:=g.e us (by simp at O;omega) _ X;obtain⟨e,p,q,rfl,h3,X⟩:=g.ma Y (by simp at O;omega) r _ (h++o::f) (.argM ah ax U) X;exact⟨e,o::(f++p),q,by simp,by simpa using h3,X⟩
 have aU:gG ij (hdS ts)=[]:=by
  unfold gG;rw[hG xab,hG xab,hG xab,hG xab,hG xab,hG xab,hG xab,hG xab,hG xab,hI rfl,hG c]
 rw[aU]at X;exact⟨es,[],ts,rfl,by simpa using ah,X⟩
theorem pK(n):∀k,Gr n k
 |0=>⟨λ_ h=>by omega,λ_ h=>by omega,λ_ h=>by omega,λ_ h=>by omega,λ_ h=>by omega,λ_ h=>by omega⟩
 |k+1=>⟨O0 (pK n k),Lu (pK n k),O1 (pK n k),Lv (pK n k),PO (pK n k),O2 (pK n k)⟩
theorem qD{r}(h:fS n ts (gV::r)=-1):∃e us Y,ts=us++Y/\Pr 2 [e] us/\fS n Y r=-1:=(pK n (ts.length+1)).e ts yae r h
